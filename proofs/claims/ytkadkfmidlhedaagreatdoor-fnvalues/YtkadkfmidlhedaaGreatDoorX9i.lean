/-
  FnValues: two grids compared.
-/
import Derived.Test.YtkadkfmidlhedaaGreatDoorMg24
import Derived.Test.YtkadkfmidlhedaaGreatDoorMg23
import Derived.BigQuiet
import Derived.Deep.QuietTactic
set_option maxRecDepth 8000
set_option maxHeartbeats 2000000
namespace Go.Proofs.YtkadkfmidlhedaaGreatDoor
open Go.RowKit
theorem zVC (R C:Int) (v v':Value) (l:List VT) (w:World) (h:zB6 w v l) (h':zB6 w v' l) (hl:l.length<=2000000) :
  Calls Tryz.prog 16 #[grV R C v,grV R C v'] w fun e w'=>e=.returned (.bool true)/\Ext w w':=by
 obtain ⟨p,cap,rfl,hcap,hrow⟩:=h;obtain ⟨p',cap',rfl,hcap',hrow'⟩:=h';obtain ⟨n,hn⟩:=nm (l.length);have HN:Hid (l.length=n):=hn;rw [hn] at hcap hcap' hl hrow hrow' ⊢;have HRow:Hid (0<n->∃ b o,p=some ⟨b,o,none⟩/\RowV w b o l):=hrow;have HRow':Hid (0<n->∃ b o,p'=some ⟨b,o,none⟩/\RowV w b o l):=hrow';clear hn hrow hrow';obtain ⟨u0,u1,h0,h1,s0,s1,B0,B1,X⟩:=mkB2 w [iQ R,iQ C,.slice p n cap] [iQ R,iQ C,.slice p' n cap'] 35 35;obtain ⟨a0,a1,a2⟩:=Vec.three B0;obtain ⟨c0,c1,c2⟩:=Vec.three B1;go_enter Tryz.func16,Tryz.ntmps16;go_wp2_with fail;clear h0 h1 s0 s1;have HV0:Hid (Ext u1 u1):=xr u1;go_loopw [30] (fun i wr=>∃ k:Nat,k<=n/\i=.int .i64 k/\Ext u1 wr) (fun i _=>n - (intOf i).toNat)
 case atStart=>exact ⟨0,by omega,rfl,HV0.out⟩
 case round =>
  obtain ⟨k,hk,rfl,Y⟩:=hrel;by_cases hlt:k<n
  ·obtain ⟨e,he⟩:∃ e,l[k]?=some e:=⟨_,List.getElem?_eq_getElem (by rw [HN.out];exact hlt)⟩;obtain ⟨b,o,rfl,hR⟩:=HRow.out (by omega);obtain ⟨b',o',rfl,hR'⟩:=HRow'.out (by omega);obtain ⟨e0,e1,e2,e3,e4⟩:=(hR.l (xt X Y)).five he;obtain ⟨g0,g1,g2,g3,g4⟩:=(hR'.l (xt X Y)).five he;have d2:=cell_later Y a2;have f2:=cell_later Y c2;obtain ⟨ek,en,ed,ex,et⟩:=e;have i2:(k:Int)<(n:Int):=by omega
   clear hR hR' he;dsimp only at e0 e1 e2 e3 e4 g0 g1 g2 g3 g4;go_wp2_with fail;go_quiet (fail);go_wp2_with fail;go_roundw
   case rel=>exact ⟨k+1,by omega,by go_num,xdNv Y _⟩
   case measure=>simp [intOf];omega
  ·obtain rfl:k=n:=by omega
   go_wp2_with fail;go_ret;exact ⟨rfl,xt X Y⟩
end Go.Proofs.YtkadkfmidlhedaaGreatDoor

