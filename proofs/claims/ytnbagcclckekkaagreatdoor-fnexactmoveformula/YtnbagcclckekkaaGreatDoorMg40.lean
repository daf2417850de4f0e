/-
  Several texts in one: F7g, Tur.
-/
import Derived.Test.YtnbagcclckekkaaGreatDoorMg1
import Derived.Laws.IdiomStrings
import Derived.BigQuiet
import Derived.Deep.RegionHeld3
import Derived.Deep.QuietTactic
namespace Go.Proofs.YtnbagcclckekkaaGreatDoor
open Go.RowKit
def mtF:Nat→Nat→List UInt8→List UInt8
 | 0,_,s=>s
 | f+1,k,s=>if k=0 then s else mtF f (k / 10) (UInt8.ofNat (48+k % 10) :: s)
theorem mtF_zero (f:Nat) (s:List UInt8):mtF f 0 s=s:=by cases f <;> rfl
def markT (k:Nat):List UInt8:=109 :: mtF k k []
set_option maxRecDepth 8000 in
set_option maxHeartbeats 2000000 in
theorem markTextL (k:Nat) (w:World) (h1:1≤k) (h2:k≤100000000) :
  Calls Tryz.prog 31 #[.int .i64 k] w fun e w'=>e=.returned (sV (markT k))∧Ext w w':=by
 have f1:decide ((k:Int)≤0)=false:=by simp;omega
 obtain ⟨T,hT⟩:∃ T,mtF k k []=T:=⟨_,rfl⟩;have HT:Hid (mtF k k []=T):=hT;have HM:Hid (markT k=109 :: T):=by show _=_;unfold markT;rw [hT]
 clear hT;go_enter Tryz.func31,Tryz.ntmps31;go_wp2_with fail;go_loopw [0,3] (fun a b wr=>∃ (m f:Nat) (s:ByteArray),a=.int .i64 m∧b=.string s∧m≤f∧f≤100000000∧Hid (mtF f m s.data.toList=T)∧s.size+f≤k∧Ext w wr) (fun a _ _=>(intOf a).toNat)
 case atStart=>exact ⟨k,k,_,rfl,rfl,by omega,h2,HT,by show 0+k≤k;omega,xr _⟩
 case round =>
  obtain ⟨m,f,s,rfl,rfl,hmf,hf,HN,hsz,X⟩:=hrel;by_cases hm0:m=0
  ·subst hm0;have HE:Hid (s.data.toList=T):=by have:=HN.out;rw [mtF_zero] at this;exact this
   have hss:(⟨#[109]⟩:ByteArray).size+s.size≤9223372036854775807:=by show 1+_≤_;omega
   have HZ:Hid ((⟨#[109]⟩++s:ByteArray)=⟨(markT k).toArray⟩):=by
    show _=_;rw [HM.out,← HE.out];apply ByteArray.ext;rw [ByteArray.data_append];apply Array.ext';simp
   go_wp2_with fail;go_ret;exact ⟨congrArg (fun z=>Ending.returned (Value.string z)) HZ.out,X⟩
  ·obtain ⟨f,rfl⟩:∃ g,f=g+1:=⟨f - 1,by omega⟩;have hm1:decide ((m:Int) > 0)=true:=by simp;omega
   obtain ⟨a,ha⟩:∃ a:Nat,m % 10=a:=⟨_,rfl⟩;obtain ⟨q,hq⟩:∃ q:Nat,m / 10=q:=⟨_,rfl⟩;have ha':(m:Int).tmod 10=(a:Int):=by rw [Int.tmod_eq_emod_of_nonneg (by omega)];omega
   have hq':(m:Int).tdiv 10=(q:Int):=by rw [Int.tdiv_eq_ediv_of_nonneg (by omega)];omega
   have a10:a<10:=by omega
   have q200:q<m:=by omega
   have hcv:=run_convert_bytes_back (P:=Tryz.prog) (wr.alloc (.cells #[.int .u8 (48+(a:Int))] 5)) 102 9 5 ⟨wr.heap.size,0,none⟩ 1 [UInt8.ofNat (48+a)] Tryz.underlying102 Tryz.underlying5 Tryz.underlying9 (fun j hj=>by
    have hj':j=0:=(by simpa using hj);subst hj';simp [go_sem];omega)
   rw [List.length_singleton] at hcv;obtain ⟨t,ht⟩:∃ t:ByteArray,(⟨[UInt8.ofNat (48+a)].toArray⟩:ByteArray)=t:=⟨_,rfl⟩;rw [ht] at hcv;have hts:t.data.toList=[UInt8.ofNat (48+a)]:=by rw [← ht]
   have htz:=size_ofL' hts;have HN2:Hid (mtF f q (t++s).data.toList=T):=by
    have h:=HN.out;unfold mtF at h;rw [if_neg hm0,ha,hq] at h;show _=_;rw [ByteArray.data_append,Array.toList_append,hts];exact h
   simp only [List.length_singleton] at htz;have hw8:IntKind.u8.wrap (48+(a:Int))=48+(a:Int):=by rw [IntKind.wrap_u8];omega
   clear ha hq hts ht HN HT HM;go_wp2_with fail;go_roundw
   case rel=>exact ⟨q,f,_,rfl,rfl,by omega,by omega,HN2,by rw [ByteArray.size_append];omega,xa X _⟩
   case measure=>simp [intOf];omega
structure TurnedIn (lo hi:Nat) (w w':World):Prop where
 ext:∀ a,Ext a w→a.heap.size≤lo→Ext a w'
 vec:∀ b L,(b<lo∨hi≤b)→Vec w b L→Vec w' b L
 size:w.heap.size≤w'.heap.size
 cell:∀ (a:Addr) (u:Value),(a.block<lo∨hi≤a.block)→w.cell? a=some u→w'.cell? a=some u
 froz:∀ (a:Addr) (u:Value),(a.block<lo∨hi≤a.block)→w.cell? a=some u→w.frozen? a=false→w'.frozen? a=false
theorem TurnedIn.refl (lo hi:Nat) (w:World):TurnedIn lo hi w w:=⟨fun _ h _=>h,fun _ _ _ h=>h,Nat.le_refl _,fun _ _ _ h=>h,fun _ _ _ _ h=>h⟩
theorem TurnedIn.step {lo hi:Nat} {w w1 w2:World} (h:TurnedIn lo hi w w1) (x:Ext w1 w2):TurnedIn lo hi w w2:=⟨fun a ha hg=>xt (h.ext a ha hg) x,fun b L hb hL=>(h.vec b L hb hL).later x,Nat.le_trans h.size x.size,fun a u ha hu=>cell_later x (h.cell a u ha hu),fun a u ha hu hf=>frozen_later x (h.cell a u ha hu) (h.froz a u ha hu hf)⟩
theorem TurnedIn.put {lo hi:Nat} {w w1:World} (h:TurnedIn lo hi w w1) (g j:Nat) (hg:lo≤g∧g<hi) (u:Value):TurnedIn lo hi w (w1.setCell ⟨g,j,none⟩ u):=
 ⟨fun a ha hl=>xset (h.ext a ha hl) (p:=⟨g,j,none⟩) (Nat.le_trans hl hg.1) u,fun b L hb hL=>(h.vec b L hb hL).far (p:=⟨g,j,none⟩) (fun e=>by have:g=b:=e;omega) u,Nat.le_trans h.size (by simp [World.setCell]),
  fun a v ha hv=>by rw [World.cell?_setCell_other _ _ _ _ (fun e=>by rw [← e] at ha;simp at ha;omega)];exact h.cell a v ha hv,fun a v ha hv hf=>by rw [World.frozen?_setCell];exact h.froz a v ha hv hf⟩
end Go.Proofs.YtnbagcclckekkaaGreatDoor

