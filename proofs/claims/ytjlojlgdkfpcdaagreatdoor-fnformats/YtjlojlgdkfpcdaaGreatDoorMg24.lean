/-
  Several texts in one: K1, Kt.
-/
import Derived.Test.YtjlojlgdkfpcdaaGreatDoorMg23
import Derived.Test.YtjlojlgdkfpcdaaGreatDoorMg3
set_option maxRecDepth 8000
set_option maxHeartbeats 4000000
namespace Go.Proofs.YtjlojlgdkfpcdaaGreatDoor
open Go.RowKit
theorem take1I (F:Nat) (x:BL) (f:KT) (w:World) (h:Vec w F f.cells) (hx:x.length<=1000):Calls Tryz.prog 55 #[.pointer (some ⟨F,0,none⟩),iQ 1,sV x] w fun e w'=>(∃ v,e=.returned v)/\Vec w' F (zB6 1 x f).cells/\zAA F w w':=by
 have C:=trimK x w hx;have HV:Hid (∀ W,Ext w W->Vec (W.setCell ⟨F,1,none⟩ (sV (Lib.trimS x [34]))) F (zB6 1 x f).cells):=fun W e=>(h.l e).put 1 (by simp) _;have HC:Hid (∀ W,Ext w W->W.cell? ⟨F,1,none⟩=some (sV (KT.bf f))/\W.frozen? ⟨F,1,none⟩=false):=fun W e=>(h.l e) 1 _ rfl;clear h;go_enter Tryz.func55,Tryz.ntmps55;go_wp2_with fail;refine C.mono ?_;rintro e w1 ⟨rfl,e1⟩;obtain ⟨c,g⟩:=HC.out w1 e1;go_wp2_with fail;refine bodyPost_end (results_none rfl _ _ _) rfl ?_;exact ⟨⟨_,rfl⟩,HV.out w1 e1,(zAA.of_ext e1).set _⟩
theorem take9I (F:Nat) (x:BL) (f:KT) (w:World) (h:Vec w F f.cells) (hx:x.length<=1000):Calls Tryz.prog 55 #[.pointer (some ⟨F,0,none⟩),iQ 9,sV x] w fun e w'=>(∃ v,e=.returned v)/\Vec w' F (zB6 9 x f).cells/\zAA F w w':=by
 have C:=trimK x w hx;have HV:Hid (∀ W,Ext w W->Vec (W.setCell ⟨F,2,none⟩ (sV (Lib.trimS x [34]))) F (zB6 9 x f).cells):=fun W e=>(h.l e).put 2 (by simp) _;have HC:Hid (∀ W,Ext w W->W.cell? ⟨F,2,none⟩=some (sV (KT.af f))/\W.frozen? ⟨F,2,none⟩=false):=fun W e=>(h.l e) 2 _ rfl;clear h;go_enter Tryz.func55,Tryz.ntmps55;go_wp2_with fail;refine C.mono ?_;rintro e w1 ⟨rfl,e1⟩;obtain ⟨c,g⟩:=HC.out w1 e1;go_wp2_with fail;refine bodyPost_end (results_none rfl _ _ _) rfl ?_;exact ⟨⟨_,rfl⟩,HV.out w1 e1,(zAA.of_ext e1).set _⟩
theorem take2I (F:Nat) (x:BL) (f:KT) (w:World) (h:Vec w F f.cells) (_hx:x.length<=1000):Calls Tryz.prog 55 #[.pointer (some ⟨F,0,none⟩),iQ 2,sV x] w fun e w'=>(∃ v,e=.returned v)/\Vec w' F (zB6 2 x f).cells/\zAA F w w':=by
 have HV:Hid (Vec (w.setCell ⟨F,6,none⟩ (.bool true)) F (zB6 2 x f).cells):=h.put 6 (by simp) _;obtain ⟨c,g⟩:=h 6 _ rfl;have z1:(⟨x.toArray⟩:ByteArray).size=x.length:=rfl;clear h;go_enter Tryz.func55,Tryz.ntmps55;go_wp2_with fail;refine bodyPost_end (results_none rfl _ _ _) rfl ?_;exact ⟨⟨_,rfl⟩,HV.out,(zAA.refl _ _).set _⟩
theorem take3I (F:Nat) (x:BL) (f:KT) (w:World) (h:Vec w F f.cells) (_hx:x.length<=1000):Calls Tryz.prog 55 #[.pointer (some ⟨F,0,none⟩),iQ 3,sV x] w fun e w'=>(∃ v,e=.returned v)/\Vec w' F (zB6 3 x f).cells/\zAA F w w':=by
 have HV:Hid (Vec (w.setCell ⟨F,3,none⟩ (iQ (x.length:Int))) F (zB6 3 x f).cells):=h.put 3 (by simp) _;obtain ⟨c,g⟩:=h 3 _ rfl;have z1:(⟨x.toArray⟩:ByteArray).size=x.length:=rfl;obtain ⟨n,hn⟩:=nm (x.length);rw [hn] at HV z1;clear hn;clear h;go_enter Tryz.func55,Tryz.ntmps55;go_wp2_with fail;refine bodyPost_end (results_none rfl _ _ _) rfl ?_;exact ⟨⟨_,rfl⟩,HV.out,(zAA.refl _ _).set _⟩
theorem take5I (F:Nat) (x:BL) (f:KT) (w:World) (h:Vec w F f.cells) (_hx:x.length<=1000):Calls Tryz.prog 55 #[.pointer (some ⟨F,0,none⟩),iQ 5,sV x] w fun e w'=>(∃ v,e=.returned v)/\Vec w' F (zB6 5 x f).cells/\zAA F w w':=by
 have HV:Hid (Vec (w.setCell ⟨F,4,none⟩ (iQ (x.length:Int))) F (zB6 5 x f).cells):=h.put 4 (by simp) _;obtain ⟨c,g⟩:=h 4 _ rfl;have z1:(⟨x.toArray⟩:ByteArray).size=x.length:=rfl;obtain ⟨n,hn⟩:=nm (x.length);rw [hn] at HV z1;clear hn;clear h;go_enter Tryz.func55,Tryz.ntmps55;go_wp2_with fail;refine bodyPost_end (results_none rfl _ _ _) rfl ?_;exact ⟨⟨_,rfl⟩,HV.out,(zAA.refl _ _).set _⟩
theorem take6I (F:Nat) (x:BL) (f:KT) (w:World) (h:Vec w F f.cells) (_hx:x.length<=1000):Calls Tryz.prog 55 #[.pointer (some ⟨F,0,none⟩),iQ 6,sV x] w fun e w'=>(∃ v,e=.returned v)/\Vec w' F (zB6 6 x f).cells/\zAA F w w':=by
 have HV:Hid (Vec (w.setCell ⟨F,5,none⟩ (iQ (x.length:Int))) F (zB6 6 x f).cells):=h.put 5 (by simp) _;obtain ⟨c,g⟩:=h 5 _ rfl;have z1:(⟨x.toArray⟩:ByteArray).size=x.length:=rfl;obtain ⟨n,hn⟩:=nm (x.length);rw [hn] at HV z1;clear hn;clear h;go_enter Tryz.func55,Tryz.ntmps55;go_wp2_with fail;refine bodyPost_end (results_none rfl _ _ _) rfl ?_;exact ⟨⟨_,rfl⟩,HV.out,(zAA.refl _ _).set _⟩
theorem take7I (F:Nat) (x:BL) (f:KT) (w:World) (h:Vec w F f.cells) (_hx:x.length<=1000):Calls Tryz.prog 55 #[.pointer (some ⟨F,0,none⟩),iQ 7,sV x] w fun e w'=>(∃ v,e=.returned v)/\Vec w' F (zB6 7 x f).cells/\zAA F w w':=by
 have HV:Hid (Vec (w.setCell ⟨F,7,none⟩ (iQ (x.length:Int))) F (zB6 7 x f).cells):=h.put 7 (by simp) _;obtain ⟨c,g⟩:=h 7 _ rfl;have z1:(⟨x.toArray⟩:ByteArray).size=x.length:=rfl;obtain ⟨n,hn⟩:=nm (x.length);rw [hn] at HV z1;clear hn;clear h;go_enter Tryz.func55,Tryz.ntmps55;go_wp2_with fail;refine bodyPost_end (results_none rfl _ _ _) rfl ?_;exact ⟨⟨_,rfl⟩,HV.out,(zAA.refl _ _).set _⟩
theorem take8I (F:Nat) (x:BL) (f:KT) (w:World) (h:Vec w F f.cells) (_hx:x.length<=1000):Calls Tryz.prog 55 #[.pointer (some ⟨F,0,none⟩),iQ 8,sV x] w fun e w'=>(∃ v,e=.returned v)/\Vec w' F (zB6 8 x f).cells/\zAA F w w':=by
 have HV:Hid (Vec (w.setCell ⟨F,8,none⟩ (sV x)) F (zB6 8 x f).cells):=h.put 8 (by simp) _;obtain ⟨c,g⟩:=h 8 _ rfl;have z1:(⟨x.toArray⟩:ByteArray).size=x.length:=rfl;clear h;go_enter Tryz.func55,Tryz.ntmps55;go_wp2_with fail;refine bodyPost_end (results_none rfl _ _ _) rfl ?_;exact ⟨⟨_,rfl⟩,HV.out,(zAA.refl _ _).set _⟩
theorem take4I (F:Nat) (x:BL) (f:KT) (w:World) (h:Vec w F f.cells) (_hx:x.length<=1000):Calls Tryz.prog 55 #[.pointer (some ⟨F,0,none⟩),iQ 4,sV x] w fun e w'=>(∃ v,e=.returned v)/\Vec w' F (zB6 4 x f).cells/\zAA F w w':=by
 go_enter Tryz.func55,Tryz.ntmps55;go_wp2_with fail;refine bodyPost_end (results_none rfl _ _ _) rfl ?_;exact ⟨⟨_,rfl⟩,h,zAA.refl _ _⟩
theorem takeI (p:Nat) (hp:1<=p) (hp9:p<=9) (F:Nat) (x:BL) (f:KT) (w:World) (h:Vec w F f.cells) (hx:x.length<=1000):Calls Tryz.prog 55 #[.pointer (some ⟨F,0,none⟩),iQ (p:Int),sV x] w fun e w'=>(∃ v,e=.returned v)/\Vec w' F (zB6 p x f).cells/\zAA F w w':=by
 match p,hp,hp9 with
 | 1,_,_=>exact take1I F x f w h hx
 | 2,_,_=>exact take2I F x f w h hx
 | 3,_,_=>exact take3I F x f w h hx
 | 4,_,_=>exact take4I F x f w h hx
 | 5,_,_=>exact take5I F x f w h hx
 | 6,_,_=>exact take6I F x f w h hx
 | 7,_,_=>exact take7I F x f w h hx
 | 8,_,_=>exact take8I F x f w h hx
 | 9,_,_=>exact take9I F x f w h hx
theorem zGQ {s:BL} (h:zA6 s.length s=none):zAT s=false:=by unfold zAT;rw [h]
theorem zGP {s:BL} {ps:List BL} (h:zA6 s.length s=some ps):zAT s=(decide (1<=ps.length/\ps.length<=12) && letF (s.getD 0 0)):=by unfold zAT;rw [h]
theorem zHN:∀ (f:Nat) (s:BL),zA6 f s=some []->s=[]:=by
 intro f s h;cases f with
 | zero =>
  by_cases hs:s=[]
  ·exact hs
  ·simp [zA6,hs] at h
 | succ f =>
  by_cases hs:s=[]
  ·exact hs
  ·by_cases hw:zAC s=[] <;> simp [zA6,hs,hw] at h
theorem partsK (s:BL) (w:World) (hs:s.length<=1000) :
  Calls Tryz.prog 89 #[sV s] w fun e w'=>(∃ v,e=.returned (.tuple #[v,.bool (zAT s)])/\∀ ps,zA6 s.length s=some ps->OwnT w' (w.heap.size+1) v ps)/\Ext w w':=by
 obtain ⟨S,hS⟩:∃ S:ByteArray,(⟨s.toArray⟩:ByteArray)=S:=⟨_,rfl⟩;have HSL:Hid (S.data.toList=s):=by show _=_;rw [<- hS]
 have V0:Vec (w.alloc (.cells #[.string S,iQ 0] 89)) w.heap.size [sV s,iQ 0]:=by rw [<- hS];exact zA2 w [sV s,iQ 0] 89
 have X0:=x1 w (.cells #[.string S,iQ 0] 89);have A0:Hid (AtK (w.alloc (.cells #[.string S,iQ 0] 89)) w.heap.size s 0):=⟨V0,by omega,hs⟩;have HZ:S.size=s.length:=zDM HSL.out;show Calls Tryz.prog 89 #[.string ⟨s.toArray⟩] w _;rw [hS];clear hS;obtain ⟨n,hn⟩:=nm (s.length);have HN:Hid (s.length=n):=hn;rw [hn] at hs HZ ⊢;obtain ⟨P,hP⟩:=nm (zA6 n s);have HP0:Hid ((zA6 (n - 0) (s.drop 0)).map ([]++·)=P):=by show _=_;simp [hP]
 have HOK0:Hid (P=none->zAT s=false):=fun h=>zGQ (by rw [hn,hP];exact h);have HOK1:Hid (∀ ps,P=some ps->zAT s=(decide (1<=ps.length/\ps.length<=12) && letF (s.getD 0 0))):=fun ps h=>zGP (by rw [hn,hP];exact h);have HNil:Hid (P=some []->n=0):=fun h=>by have:=zHN n s (by rw [hP];exact h);rw [<- hn,this];rfl
 rw [hP];clear hP hn V0;obtain ⟨K,hK⟩:=nm (zAT s);rw [hK] at HOK0 HOK1 ⊢;clear hK;obtain ⟨B,hB⟩:=nm (w.heap.size);have HB:Hid (w.heap.size=B):=hB;have sz0:(w.alloc (.cells #[.string S,iQ 0] 89)).heap.size=B+1:=by rw [World.size_alloc,hB]
 rw [hB] at A0 ⊢;go_enter Tryz.func89,Tryz.ntmps89;go_wp2_with fail;clear hB;have T0:=zJS (w.alloc (.cells #[.string S,iQ 0] 89)) (B+1)
 go_loopg [5] n (fun gk v wr=>∃ (j:Nat) (ps:List BL),Hid (j+gk=n)/\Hid (AtK wr B s j)/\OwnT wr (B+1) v ps/\Hid ((zA6 (n - j) (s.drop j)).map (ps++·)=P)/\Hid (ps.length<=j)/\Hid (B+1<=wr.heap.size)/\Ext w wr)
 case atStart=>exact ⟨0,[],by show _=_;omega,A0,T0,HP0,Nat.le_refl _,by show _<=_;omega,X0⟩
 case round =>
  clear A0 T0 HP0 sz0 X0;obtain ⟨j,ps,HG,HA,OT,HP,HL,HSz,X⟩:=hrel;have hj:j<=n:=by have:=HA.out.2.1;rw [HN.out] at this;exact this
  obtain ⟨c1,f1⟩:=HA.out.1 1 _ rfl;obtain ⟨p5,q5,rfl,hq5⟩:=zBG OT;by_cases hlt:j<n
  ·have i2:(j:Int)<(n:Int):=by omega
   have g1:decide ((j:Int)<(n:Int))=true:=by simp;omega
   obtain ⟨g,hg⟩:=nm (wr.heap.size);have HGS:Hid (B<g):=by show _<_;have:=HSz.out;omega
   have HOB:Hid (∀ r,(Value.slice p5 ps.length q5).ownBlock=some r->B+1<=r/\r<g):=fun r hr=>by rw [<- hg];exact zGC OT r hr
   have OTH:Hid (OwnT wr (B+1) (.slice p5 ps.length q5) ps):=OT;have MK:=marksK wr;rw [hg] at MK;clear hg OT;go_wp2_with fail;refine MK.mono ?_;rintro e wm ⟨rfl,VM,em⟩;have A1:Hid (AtK wm B s j):=HA.out.l em;have O1:=zIV OTH.out em;have X1:=xt X em;have S1:Hid (B+1<=wm.heap.size):=by show _<=_;have:=HSz.out;have:=em.size;omega
   clear MK em c1 f1 HA OTH X HSz;go_wp2_with fail;go_loopw [21,5,6] (fun i v f wx=>∃ k:Nat,k<=14/\i=.int .i64 k/\Hid (Vec wx g zD5)/\Ext w wx/\Hid (B+1<=wx.heap.size)/\((f=.bool false/\v=.slice p5 ps.length q5/\Hid (AtK wx B s j)/\Hid (OwnT wx (B+1) (.slice p5 ps.length q5) ps)/\Hid (∀ (q:Nat) o,q<k->zAG[q]?=some o->Lib.hasPrefix (s.drop j) o=false))\/(∃ t,f=.bool true/\Hid (zAC (s.drop j)=t/\1<=t.length/\t.length<=4)/\Hid (AtK wx B s (j+t.length))/\Hid (OwnT wx (B+1) v (ps++[t]))))) (fun i _ _ _=>14 - (intOf i).toNat)
   case atStart=>exact ⟨0,by omega,rfl,VM,X1,S1,.inl ⟨rfl,rfl,A1,O1,fun q o hq=>by omega⟩⟩
   case round =>
    clear A1 O1 X1 VM S1;obtain ⟨k,hk,rfl,VM,X,HSz,hcs⟩:=hrel;by_cases hk14:k<14
    ·obtain ⟨o,ho,hmo,hol1,hol4⟩:=zVA k hk14;have i3:(k:Int)<14:=(by omega);have m0:=(VM.out k _ hmo).1
     rcases hcs with ⟨rfl,rfl,HA,HO,HF⟩ | ⟨t,rfl,HW,HA,HO⟩
     ·have CT:=zON B s o j wr HA.out (by omega);obtain ⟨pp,hpp⟩:=nm (Lib.hasPrefix (s.drop j) o);rw [hpp] at CT;obtain ⟨ol,hol⟩:=nm (o.length);rw [hol] at CT hol1 hol4;cases pp
      ·have HF2:Hid (∀ (q:Nat) o,q<k+1->zAG[q]?=some o->Lib.hasPrefix (s.drop j) o=false):=fun q o' hq h=>by
        rcases Nat.lt_or_ge q k with hqk | hqk
        ·exact HF.out q o' hqk h
        ·obtain rfl:q=k:=(by omega);rw [ho] at h;cases h;exact hpp
       clear HF ho hmo hpp hol HA;go_wp2_with fail;refine CT.mono ?_;rintro e w2 ⟨rfl,hA2,o2⟩;have hA2:AtK w2 B s j:=hA2;have VM2:Hid (Vec w2 g zD5):=o2.vec (by have:=HGS.out;omega) VM.out;have X2:=zAA.ext X o2 (by have:=HB.out;omega);have O2:=zKX HO.out o2 (by omega);have S2:Hid (B+1<=w2.heap.size):=(by show _<=_;have:=HSz.out;have:=o2.size;omega);clear CT m0 VM HO X o2 HSz;go_wp2_with fail;go_roundw
       case rel=>exact ⟨k+1,by omega,by go_num,VM2,X2,S2,.inl ⟨rfl,rfl,hA2,O2,HF2⟩⟩
       case measure=>simp [intOf];omega
      ·have HW:Hid (zAC (s.drop j)=o/\1<=o.length/\o.length<=4):=by
        refine ⟨zMX ho hpp HF.out,?_,?_⟩ <;> omega
       have HOL:Hid (o.length=ol):=hol;clear HF ho hmo hpp hol HA;go_wp2_with fail;refine CT.mono ?_;rintro e w2 ⟨rfl,hA2,o2⟩;have hA2:AtK w2 B s (j+ol):=hA2;have VM2:Vec w2 g zD5:=o2.vec (by have:=HGS.out;omega) VM.out;have X2:=zAA.ext X o2 (by have:=HB.out;omega);have OQ:Hid (OwnT w2 (B+1) (.slice p5 ps.length q5) ps):=zKX HO.out o2 (by omega);have S2:B+1<=w2.heap.size:=(by have:=HSz.out;have:=o2.size;omega);have hL:=HL.out;clear CT m0 VM HO X o2 HSz;obtain ⟨inf,hi,hz,hz1,hz2⟩:=zVM;go_wp2_with (at_builtin;refine wpList_append_own _ rfl _ _ 51 rfl (B+1) 9 inf (.string ByteArray.empty) 1 16 Tryz.underlying51 hi hz hz1 hz2 rfl (by decide) _ _ _ rfl (OQ.out.alloc _) ⟨w2.heap.size,0,none⟩ 1 1 [sV o] rfl rfl (World.news_of_block (heap_alloc_new w2 (.cells [sV o].toArray 9))) (by simp [Value.oneCell']) (by simp only [maxLen];omega) (by omega) (by simp;omega) ?_);intro v7 wC ownC gC _;have XA:=xa X2 (.cells [sV o].toArray 9);have EA:=x1 w2 (.cells [sV o].toArray 9);have XC:Ext w wC:=XA.grown gC XA.size (fun q hq=>by have:=(HOB.out q hq).1;have:=HB.out;omega);have OC:Hid (OwnT wC (B+1) v7 (ps++[o])):=by
        show World.ownsRow _ _ _ _ _ _ _;rw [List.map_append,List.length_append];exact ownC
       have AC:Hid (AtK wC B s (j+o.length)):=by
        rw [HOL.out];exact (hA2.l EA).grown gC (fun r hr=>by have:=(HOB.out r hr).1;omega)
       have VC:Hid (Vec wC g zD5):=zKH (VM2.l EA) gC (fun r hr=>by have:=(HOB.out r hr).2;omega) (by simp [zD5]);have SC:Hid (B+1<=wC.heap.size):=(by show _<=_;have:=gC.size;have:=EA.size;omega);obtain ⟨p7,q7,rfl,hq7⟩:=zBG OC.out;clear gC ownC OQ XA X2 EA hi hz hz1 hz2 VM2 hA2 hL;go_wp2_with fail;go_roundw
       case rel=>exact ⟨k+1,by omega,by go_num,VC,XC,SC,.inr ⟨o,rfl,HW,AC,OC⟩⟩
       case measure=>simp [intOf];omega
     ·clear ho hmo hol1 hol4;have ⟨p6,q6,hv,hq6⟩:=zBG HO.out;subst hv;go_wp2_with fail;go_roundw
      case rel=>exact ⟨k+1,by omega,by go_num,VM,X,HSz,.inr ⟨t,rfl,HW,HA,HO⟩⟩
      case measure=>simp [intOf];omega
    ·obtain rfl:k=14:=by omega
     rcases hcs with ⟨rfl,rfl,HA,HO,HF⟩ | ⟨t,rfl,HW,HA,HO⟩
     ·have HK:Hid (K=false):=HOK0.out (by rw [<- HP.out,<- HN.out,zGB (by rw [HN.out];exact hlt) (zG3 (fun q o h=>HF.out q o (by have:=(List.getElem?_eq_some_iff.1 h).1;simpa [zAG] using this) h))];rfl);have HPn:Hid (P=none):=(by show _=_;rw [<- HP.out,<- HN.out,zGB (by rw [HN.out];exact hlt) (zG3 (fun q o h=>HF.out q o (by have:=(List.getElem?_eq_some_iff.1 h).1;simpa [zAG] using this) h))];rfl);clear HF HA HO HP;go_wp2_with fail;exact bodyPost_ret (v:=.tuple #[.slice none 0 0,.bool false]) (by simp [results,Tryz.results89,go_sem]) rfl ⟨⟨_,by rw [HK.out],fun ps' h=>by rw [HPn.out] at h;cases h⟩,X⟩
     ·have ⟨p6,q6,hv,hq6⟩:=zBG HO.out;subst hv;have HP2:Hid ((zA6 (n - (j+t.length)) (s.drop (j+t.length))).map ((ps++[t])++·)=P):=by
       show _=_;have hw:zAC (s.drop j) ≠ []:=fun e=>(by have:=HW.out.2.1;rw [<- HW.out.1,e] at this;simp at this);rw [<- HP.out,<- HN.out,zIU (by rw [HN.out];exact hlt) hw,HW.out.1,Option.map_map]
       congr 1
       funext x
       simp
      have HL2:Hid ((ps++[t]).length<=j+t.length):=(by show _<=_;rw [List.length_append];have:=HL.out;have:=HW.out.2.1;simp;omega);have HJ:Hid (j+t.length<=n):=(by have:=HA.out.2.1;rw [HN.out] at this;exact this);go_wp2_with fail
      go_roundg (gk - t.length)
      case measure=>have:=HG.out;have:=HW.out.2.1;have:=HJ.out;omega
      case rel=>exact ⟨j+t.length,ps++[t],by show _=_;have:=HG.out;have:=HJ.out;omega,HA,HO.out,HP2,HL2,HSz,X⟩
  ·obtain rfl:j=n:=by omega
   have HPs:Hid (P=some ps):=by
    show _=_;rw [<- HP.out,<- HN.out,zRU];simp
   have HKs:Hid (K=(decide (1<=ps.length/\ps.length<=12) && letF (s.getD 0 0))):=HOK1.out ps HPs.out;have OTH:Hid (OwnT wr (B+1) (.slice p5 ps.length q5) ps):=OT;have hnn:1<=ps.length->0<j:=fun h=>by
    have:=HL.out;omega
   clear OT HP HOK0 HOK1 HNil;by_cases h1:ps.length<1
   ·have i1:(ps.length:Int)<1:=(by omega);have HK:Hid (K=false):=(by show _=_;rw [HKs.out,decide_eq_false (by omega)];rfl);clear HKs hnn;go_wp2_with fail;exact bodyPost_ret (v:=.tuple #[.slice p5 ps.length q5,.bool false]) (by simp [results,Tryz.results89,go_sem]) rfl ⟨⟨_,by rw [HK.out],fun ps' h=>by rw [HPs.out] at h;cases h;exact OTH.out⟩,X⟩
   ·have i1:1<=(ps.length:Int):=(by omega);by_cases h2:ps.length<=12
    ·have i2:(ps.length:Int)<=12:=(by omega);have hk0:0<S.size:=(by have:=hnn (by omega);omega);have hb0:=zD9 HSL.out hk0;obtain ⟨c,hcc⟩:=nm (s.getD 0 0);rw [hcc] at hb0;have HK:Hid (K=letF c):=(by show _=_;rw [HKs.out,decide_eq_true ⟨by omega,h2⟩,hcc];rfl);have LC:=fun W=>letterS c W;have hb:((S[0]'hk0).toNat:Int)=(c.toNat:Int):=(by rw [hb0]);obtain ⟨N,hN⟩:∃ N:Int,(c.toNat:Int)=N:=⟨_,rfl⟩;rw [hN] at hb;simp only [hN] at LC;obtain ⟨lb,hlb⟩:=nm (letF c);rw [hlb] at HK;simp only [hlb] at LC;clear HKs hcc hb0 hN hlb hnn;go_wp2_with fail;refine (LC _).mono ?_;rintro e w2 ⟨rfl,rfl⟩;go_wp2_with fail;exact bodyPost_ret (v:=.tuple #[.slice p5 ps.length q5,.bool lb]) (by simp [results,Tryz.results89,go_sem]) rfl ⟨⟨_,by rw [HK.out],fun ps' h=>by rw [HPs.out] at h;cases h;exact OTH.out⟩,X⟩
    ·have i2:12<(ps.length:Int):=(by omega);have HK:Hid (K=false):=(by show _=_;rw [HKs.out,decide_eq_false (by omega)];rfl);clear HKs hnn;go_wp2_with fail;exact bodyPost_ret (v:=.tuple #[.slice p5 ps.length q5,.bool false]) (by simp [results,Tryz.results89,go_sem]) rfl ⟨⟨_,by rw [HK.out],fun ps' h=>by rw [HPs.out] at h;cases h;exact OTH.out⟩,X⟩
end Go.Proofs.YtjlojlgdkfpcdaaGreatDoor

