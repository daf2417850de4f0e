/-
  Several texts in one: W9t, Qa, Qb, Qc.
-/
import Derived.Test.YtiaakhogigddbaaGreatDoorMg4
import Derived.Laws.IdiomStrings
import Derived.BigQuiet
import Derived.Deep.RegionHeld3
import Derived.Deep.QuietTactic
import Derived.Lib.SlKept
import Derived.Shelf.SlicesE.Compact
import Derived.Lib.SliceRun
import Derived.Laws.IdiomCopy
namespace Go.Proofs.YtiaakhogigddbaaGreatDoor
open Go.RowKit
def mtF:Nat→Nat→List UInt8→List UInt8
 | 0,_,s=>s
 | f+1,k,s=>if k=0 then s else mtF f (k / 10) (UInt8.ofNat (48+k % 10) :: s)
theorem mtF_zero (f:Nat) (s:List UInt8):mtF f 0 s=s:=by cases f <;> rfl
def markT (k:Nat):List UInt8:=109 :: mtF k k []
set_option maxRecDepth 8000 in
set_option maxHeartbeats 2000000 in
theorem markTextL (k:Nat) (w:World) (h1:1≤k) (h2:k≤100000000) :
  Calls Tryz.prog 49 #[.int .i64 k] w fun e w'=>e=.returned (sV (markT k))∧Ext w w':=by
 have f1:decide ((k:Int)≤0)=false:=by simp;omega
 obtain ⟨T,hT⟩:∃ T,mtF k k []=T:=⟨_,rfl⟩;have HT:Hid (mtF k k []=T):=hT;have HM:Hid (markT k=109 :: T):=by show _=_;unfold markT;rw [hT]
 clear hT;go_enter Tryz.func49,Tryz.ntmps49;go_wp2_with fail;go_loopw [0,3] (fun a b wr=>∃ (m f:Nat) (s:ByteArray),a=.int .i64 m∧b=.string s∧m≤f∧f≤100000000∧Hid (mtF f m s.data.toList=T)∧s.size+f≤k∧Ext w wr) (fun a _ _=>(intOf a).toNat)
 case atStart=>exact ⟨k,k,_,rfl,rfl,by omega,h2,HT,by show 0+k≤k;omega,xr _⟩
 case round =>
  obtain ⟨m,f,s,rfl,rfl,hmf,hf,HN,hsz,X⟩:=hrel;by_cases hm0:m=0
  ·subst hm0;have HE:Hid (s.data.toList=T):=by have:=HN.out;rw [mtF_zero] at this;exact this
   have hss:(⟨#[109]⟩:ByteArray).size+s.size≤9223372036854775807:=by show 1+_≤_;omega
   have HZ:Hid ((⟨#[109]⟩++s:ByteArray)=⟨(markT k).toArray⟩):=by
    show _=_;rw [HM.out,← HE.out];apply ByteArray.ext;rw [ByteArray.data_append];apply Array.ext';simp
   go_wp2_with fail;go_ret;exact ⟨congrArg (fun z=>Ending.returned (Value.string z)) HZ.out,X⟩
  ·obtain ⟨f,rfl⟩:∃ g,f=g+1:=⟨f - 1,by omega⟩;have hm1:decide ((m:Int) > 0)=true:=by simp;omega
   obtain ⟨a,ha⟩:∃ a:Nat,m % 10=a:=⟨_,rfl⟩;obtain ⟨q,hq⟩:∃ q:Nat,m / 10=q:=⟨_,rfl⟩;have ha':(m:Int).tmod 10=(a:Int):=by rw [Int.tmod_eq_emod_of_nonneg (by omega)];omega
   have hq':(m:Int).tdiv 10=(q:Int):=by rw [Int.tdiv_eq_ediv_of_nonneg (by omega)];omega
   have a10:a<10:=by omega
   have q200:q<m:=by omega
   have hcv:=run_convert_bytes_back (P:=Tryz.prog) (wr.alloc (.cells #[.int .u8 (48+(a:Int))] 5)) 89 9 5 ⟨wr.heap.size,0,none⟩ 1 [UInt8.ofNat (48+a)] Tryz.underlying89 Tryz.underlying5 Tryz.underlying9 (fun j hj=>by
    have hj':j=0:=(by simpa using hj);subst hj';simp [go_sem];omega)
   rw [List.length_singleton] at hcv;obtain ⟨t,ht⟩:∃ t:ByteArray,(⟨[UInt8.ofNat (48+a)].toArray⟩:ByteArray)=t:=⟨_,rfl⟩;rw [ht] at hcv;have hts:t.data.toList=[UInt8.ofNat (48+a)]:=by rw [← ht]
   have htz:=size_ofL' hts;have HN2:Hid (mtF f q (t++s).data.toList=T):=by
    have h:=HN.out;unfold mtF at h;rw [if_neg hm0,ha,hq] at h;show _=_;rw [ByteArray.data_append,Array.toList_append,hts];exact h
   simp only [List.length_singleton] at htz;have hw8:IntKind.u8.wrap (48+(a:Int))=48+(a:Int):=by rw [IntKind.wrap_u8];omega
   clear ha hq hts ht HN HT HM;go_wp2_with fail;go_roundw
   case rel=>exact ⟨q,f,_,rfl,rfl,by omega,by omega,HN2,by rw [ByteArray.size_append];omega,xa X _⟩
   case measure=>simp [intOf];omega
def markE (m:Nat):VT:=⟨m,((m:Int)+1) % 3 == 0,(m:Int)+1+1,(m:Int)+1+1+1,markT (m+4)⟩
def MarkedV (M:List Value) (k0 n:Nat):Prop:=∀ i,i<n→∀ j,j<5→M[i * 5+j]?=(markE (k0+i * 5)).cells[j]?
def put5L (M:List Value) (o:Nat) (u0 u1 u2 u3 u4:Value):List Value:=((((M.set o u0).set (o+1) u1).set (o+1+1) u2).set (o+1+2) u3).set (o+4) u4
theorem put5L_length (M:List Value) (o:Nat) (u0 u1 u2 u3 u4:Value):(put5L M o u0 u1 u2 u3 u4).length=M.length:=by simp [put5L]
theorem put5L_far (M:List Value) (o:Nat) (u0 u1 u2 u3 u4:Value) {i:Nat} (h:i<o):(put5L M o u0 u1 u2 u3 u4)[i]?=M[i]?:=by
 unfold put5L;rw [List.getElem?_set_ne (by omega),List.getElem?_set_ne (by omega),List.getElem?_set_ne (by omega),List.getElem?_set_ne (by omega),List.getElem?_set_ne (by omega)]
theorem put5L_at (M:List Value) (o:Nat) (u0 u1 u2 u3 u4:Value) (hM:o+5≤M.length) (j:Nat) (hj:j<5):(put5L M o u0 u1 u2 u3 u4)[o+j]?=[u0,u1,u2,u3,u4][j]?:=by
 unfold put5L
 match j,hj with
 | 0,_=>rw [List.getElem?_set_ne (by omega),List.getElem?_set_ne (by omega),List.getElem?_set_ne (by omega),List.getElem?_set_ne (by omega)];exact List.getElem?_set_self (by omega)
 | 1,_=>rw [List.getElem?_set_ne (by omega),List.getElem?_set_ne (by omega),List.getElem?_set_ne (by omega)];exact List.getElem?_set_self (by simp;omega)
 | 2,_=>rw [List.getElem?_set_ne (by omega),List.getElem?_set_ne (by omega)];exact List.getElem?_set_self (by simp;omega)
 | 3,_=>rw [List.getElem?_set_ne (by omega)];exact List.getElem?_set_self (by simp;omega)
 | 4,_=>exact List.getElem?_set_self (by simp;omega)
theorem MarkedV.next {M:List Value} {k0 k n:Nat} (h:MarkedV M k0 k) (hM:M.length=n * 5) (hk:k<n) (m:Nat) (hm:k0+k * 5=m) :
  MarkedV (put5L M (k * 5) (.int .i64 m) (.bool (((m:Int)+1) % 3 == 0)) (.int .i64 ((m:Int)+1+1)) (.int .i64 ((m:Int)+1+1+1)) (sV (markT (m+4)))) k0 (k+1):=by
 intro i hi j hj;by_cases e:i=k
 ·subst e;rw [put5L_at _ _ _ _ _ _ _ (by omega) j hj,hm];rfl
 ·rw [put5L_far _ _ _ _ _ _ _ (by omega)];exact h i (by omega) j hj
def RowAt (w:World) (v:Value) (n:Nat) (M:List Value):Prop:=
 M.length=n * 5∧∃ p cap,v=.slice p n cap∧n≤cap∧(0<n→∃ g,p=some ⟨g,0,none⟩∧Vec w g M)
theorem RowAt.later {w w':World} {v:Value} {n:Nat} {M:List Value} (h:RowAt w v n M) (e:Ext w w'):RowAt w' v n M:=by
 obtain ⟨h1,p,cap,hv,hc,hg⟩:=h;refine ⟨h1,p,cap,hv,hc,fun h0=>?_⟩;obtain ⟨g,hp,hV⟩:=hg h0;exact ⟨g,hp,hV.later e⟩
theorem RowAt.of_own {w:World} {g:Nat} {l:List VT} {n:Nat} (h:OwnV w g l) (hn:l.length=n):RowAt w (.slice (some ⟨g,0,none⟩) n n) n (flatV l):=by
 refine ⟨by rw [flatV_length,hn],_,n,rfl,Nat.le_refl _,fun _=>⟨g,rfl,fun i u hi=>?_⟩⟩;have hlt:i<l.length * 5:=by rw [← flatV_length];exact (List.getElem?_eq_some_iff.1 hi).1
 obtain ⟨e,he⟩:∃ e,l[i / 5]?=some e:=⟨_,List.getElem?_eq_getElem (by omega)⟩;have hj:i % 5<5:=Nat.mod_lt _ (by omega);have hi':i / 5 * 5+i % 5=i:=by omega
 have:=flatV_at he (i % 5) hj;rw [hi',hi] at this;have q:=h _ e he (i % 5) u this.symm;rw [hi'] at q;exact q
theorem RowAt.of_row {w:World} {base:Nat} {v:Value} {l:List VT} (h:OwnW w base v l):RowAt w v l.length (flatV l):=by
 refine ⟨flatV_length l,?_⟩
 rcases h.2 with ⟨rfl,h0⟩ | ⟨g,cap,cur,rfl,hb,hg,hc,_,hcs,htake⟩
 ·exact ⟨none,0,by rw [h0],by omega,fun h=>absurd h0 (by omega)⟩
 ·refine ⟨_,cap,rfl,hc,fun _=>⟨g,rfl,fun i u hi=>⟨?_,?_⟩⟩⟩
  ·have:=h.cells (g:=g) rfl i u hi;rw [show (⟨g,0,none⟩:Addr).add i=⟨g,i,none⟩ by unfold Addr.add;split <;> simp_all] at this;exact this
  ·simp [World.frozen?,hg]
theorem RowAt.vals {w:World} {v:Value} {l:List VT} (h:RowAt w v l.length (flatV l)):ValsIn w v l:=by
 obtain ⟨_,p,cap,rfl,hc,hg⟩:=h;refine ⟨p,cap,rfl,hc,fun h0=>?_⟩;obtain ⟨g,hp,V⟩:=hg h0;refine ⟨g,0,hp,fun i e hi c u hu=>?_⟩;rw [Nat.zero_add];exact (V _ u ((flatV_at hi c (cells_lt hu)).trans hu)).1
theorem RowAt.keep {w w':World} {v:Value} {n:Nat} {M:List Value} {row:Option Nat} (h:RowAt w v n M) (hg:w.grownBy w' row) (hr:∀ g,0<n→v.ownBlock=some g→some g ≠ row):RowAt w' v n M:=by
 obtain ⟨h1,p,cap,rfl,hc,hp⟩:=h;refine ⟨h1,p,cap,rfl,hc,fun h0=>?_⟩;obtain ⟨g,rfl,V⟩:=hp h0;have hlt:g<w.heap.size:=World.block_lt_of_cell? w ⟨g,0,none⟩ (V 0 _ (List.getElem?_eq_getElem (by omega))).1;exact ⟨g,rfl,vec_same V (hg.block g hlt (hr g h0 rfl))⟩
theorem row_is {n g k:Nat} (h:(if n=0 then none else some g)=some k):0<n∧g=k:=by
 split at h
 ·cases h
 ·cases h;exact ⟨by omega,rfl⟩
theorem row_own {n k:Nat} {v:Value} (h:(if n=0 then none else v.ownBlock)=some k):0<n∧v.ownBlock=some k:=by
 split at h
 ·cases h
 ·exact ⟨by omega,h⟩
theorem grown_set {w w':World} {g o:Nat} (h:w.grownBy w' (some g)) (u:Value):w.grownBy (w'.setCell ⟨g,o,none⟩ u) (some g):=
 ⟨h.os,h.tape,h.output,by rw [World.size_setCell];exact h.size,fun k hk hne=>by rw [heap_setCell_other _ _ _ _ (fun e=>hne (congrArg some e))];exact h.block k hk hne⟩
theorem grown_ext {w w' w'':World} {r:Option Nat} (h:w.grownBy w' r) (e:Ext w' w''):w.grownBy w'' r:=
 ⟨e.os.trans h.os,e.tape.trans h.tape,e.output.trans h.output,Nat.le_trans h.size e.size,fun k hk hne=>(e.block k (Nat.lt_of_lt_of_le hk h.size)).trans (h.block k hk hne)⟩
theorem grown_refl (w:World) (r:Option Nat):w.grownBy w r:=⟨rfl,rfl,rfl,Nat.le_refl _,fun _ _ _=>rfl⟩
set_option maxRecDepth 8000 in
set_option maxHeartbeats 2000000 in
theorem markVals (v:Value) (n:Nat) (L:List Value) (k0:Nat) (w:World) (h:RowAt w v n L) (hn:n≤1048576) (k1:1≤k0) (k2:k0≤10000000) :
  Calls Tryz.prog 27 #[v,.int .i64 k0] w fun e w'=>e=.returned (.int .i64 ((k0+n * 5:Nat):Int))∧(∃ M,RowAt w' v n M∧MarkedV M k0 n)∧w.grownBy w' (if n=0 then none else v.ownBlock):=by
 obtain ⟨hL,p,cap,rfl,hcap,hp⟩:=h;have H1:Hid (L.length=n * 5):=hL;have H2:Hid (0<n→∃ g,p=some ⟨g,0,none⟩∧Vec w g L):=hp;obtain ⟨row,hrow⟩:∃ q,(if n=0 then none else (Value.slice p n cap).ownBlock)=q:=⟨_,rfl⟩;have HRow:Hid ((if n=0 then none else (Value.slice p n cap).ownBlock)=row):=hrow;rw [hrow];clear hL hp hrow;go_enter Tryz.func27,Tryz.ntmps27;go_wp2_with fail;go_loopw [1,5] (fun q i wr=>∃ k:Nat,k≤n∧i=.int .i64 k∧q=.int .i64 ((k0+k * 5:Nat):Int)∧Hid (0<n→∃ (g:Nat) (M:List Value),p=some ⟨g,0,none⟩∧M.length=n * 5∧MarkedV M k0 k∧Vec wr g M)∧Hid (w.grownBy wr row)) (fun _ i _=>n - (intOf i).toNat)
 case atStart=>exact ⟨0,by omega,rfl,rfl,fun h0=>by obtain ⟨g,hg,V⟩:=H2.out h0;exact ⟨g,L,hg,H1.out,fun i hi=>absurd hi (by omega),V⟩,grown_refl _ _⟩
 case round =>
  obtain ⟨k,hk,rfl,rfl,H,HX⟩:=hrel;by_cases hlt:k<n
  ·obtain ⟨g,M,rfl,hM,hK,V⟩:=H.out (by omega);have HK:Hid (MarkedV M k0 k):=hK;have HMl:Hid (M.length=n * 5):=hM;have hrg:some g=row:=by have:=HRow.out;rw [if_neg (by omega)] at this;exact this
   have HX':Hid (w.grownBy wr (some g)):=by show World.grownBy _ _ _;rw [hrg];exact HX.out
   have HRg:Hid (some g=row):=hrg;clear hrg HRow;clear H1 H2 H hK HX;obtain ⟨m,hm⟩:∃ m:Nat,k0+k * 5=m:=⟨_,rfl⟩;have hm':m≤20000000:=by omega
   have hmk:Hid (k0+(k+1) * 5=m+5):=by show _=_;omega
   have hmm:Hid (k0+k * 5=m):=hm;rw [hm];have v0:=V (k * 5) _ (List.getElem?_eq_getElem (by omega));have v1:=V (k * 5+1) _ (List.getElem?_eq_getElem (by omega));have v2:=V (k * 5+1+1) _ (List.getElem?_eq_getElem (by omega));have v3:=V (k * 5+1+2) _ (List.getElem?_eq_getElem (by omega));obtain ⟨a0,f0⟩:=v0;obtain ⟨a1,f1⟩:=v1;obtain ⟨a2,f2⟩:=v2;obtain ⟨a3,f3⟩:=v3;have i1:(0:Int)≤(k:Int):=by omega
   have i2:(k:Int)<(n:Int):=by omega
   have V':Hid (Vec wr g M):=V;have MT:=fun W=>markTextL (m+4) W (by omega) (by omega);rw [show ((m+4:Nat):Int)=(m:Int)+1+1+1+1 by omega] at MT;clear V hm;go_wp2_with fail;clear a0 a1 a2 a3 f0 f1 f2 f3;obtain ⟨w4,hw4⟩:∃ w4,(((wr.setCell ⟨g,k * 5,none⟩ (.int .i64 (m:Int))).setCell ⟨g,k * 5+1,none⟩ (.bool (((m:Int)+1) % 3 == 0))).setCell ⟨g,k * 5+1+1,none⟩ (.int .i64 ((m:Int)+1+1))).setCell ⟨g,k * 5+1+2,none⟩ (.int .i64 ((m:Int)+1+1+1))=w4:=⟨_,rfl⟩;have VP:Vec w4 g ((((M.set (k * 5) (.int .i64 (m:Int))).set (k * 5+1) (.bool (((m:Int)+1) % 3 == 0))).set (k * 5+1+1) (.int .i64 ((m:Int)+1+1))).set (k * 5+1+2) (.int .i64 ((m:Int)+1+1+1))):=by
    rw [← hw4];exact (((V'.out.put (k * 5) (by omega) _).put (k * 5+1) (by simp;omega) _).put (k * 5+1+1) (by simp;omega) _).put (k * 5+1+2) (by simp;omega) _
   have GP:w.grownBy w4 (some g):=by
    rw [← hw4];exact grown_set (grown_set (grown_set (grown_set HX'.out _) _) _) _
   rw [hw4];clear hw4 V' HX';refine (MT w4).mono ?_;rintro e w5 ⟨rfl,e5⟩;have VQ:=VP.later e5;have GQ:=grown_ext GP e5;have hl4:=List.getElem?_eq_getElem (l:=(((M.set (k * 5) (.int .i64 (m:Int))).set (k * 5+1) (.bool (((m:Int)+1) % 3 == 0))).set (k * 5+1+1) (.int .i64 ((m:Int)+1+1))).set (k * 5+1+2) (.int .i64 ((m:Int)+1+1+1))) (i:=k * 5+4) (by simp;omega);obtain ⟨a4,f4⟩:=VQ (k * 5+4) _ hl4;have VF:Vec (w5.setCell ⟨g,k * 5+4,none⟩ (sV (markT (m+4)))) g (put5L M (k * 5) (.int .i64 m) (.bool (((m:Int)+1) % 3 == 0)) (.int .i64 ((m:Int)+1+1)) (.int .i64 ((m:Int)+1+1+1)) (sV (markT (m+4)))):=VQ.put (k * 5+4) (by simp;omega) _;have GF:=grown_set (o:=k * 5+4) GQ (sV (markT (m+4)));obtain ⟨wf,hwf⟩:∃ wf,w5.setCell ⟨g,k * 5+4,none⟩ (sV (markT (m+4)))=wf:=⟨_,rfl⟩;rw [hwf] at VF GF;have HF:Hid (0<n→∃ (g':Nat) (M':List Value),(some ⟨g,0,none⟩:Option Addr)=some ⟨g',0,none⟩∧M'.length=n * 5∧MarkedV M' k0 (k+1)∧Vec wf g' M'):=fun _=>⟨g,_,rfl,(put5L_length _ _ _ _ _ _ _).trans HMl.out,HK.out.next HMl.out hlt m hmm.out,VF⟩;have HGF:Hid (w.grownBy wf row):=by show World.grownBy _ _ _;rw [← HRg.out];exact GF
   clear VP GP VQ GQ hl4 VF e5 MT GF;go_wp2_with fail;go_roundw
   case rel=>exact ⟨k+1,by omega,by go_num,by rw [hmk.out];go_num,HF,HGF⟩
   case measure=>simp [intOf];omega
  ·obtain rfl:k=n:=by omega
   go_wp2_with fail;go_ret;refine ⟨rfl,?_,HX.out⟩;by_cases h0:0<k
   ·obtain ⟨g,M,rfl,hM,hK,V⟩:=H.out h0;exact ⟨M,⟨hM,_,cap,rfl,hcap,fun _=>⟨g,rfl,V⟩⟩,hK⟩
   ·exact ⟨L,⟨H1.out,_,cap,rfl,hcap,fun h=>absurd h h0⟩,fun i hi=>absurd hi (by omega)⟩
abbrev numV (x:Nat):Value:=.int .i64 (x:Int)
def NumsAt (w:World) (v:Value) (l:List Nat):Prop:=∃ p cap,v=.slice p l.length cap∧l.length≤cap∧(0<l.length→∃ g,p=some ⟨g,0,none⟩∧Vec w g (l.map numV))
theorem NumsAt.later {w w':World} {v:Value} {l:List Nat} (h:NumsAt w v l) (e:Ext w w'):NumsAt w' v l:=by
 obtain ⟨p,cap,rfl,hc,hv⟩:=h;exact ⟨p,cap,rfl,hc,fun h0=>by obtain ⟨g,rfl,V⟩:=hv h0;exact ⟨g,rfl,V.later e⟩⟩
theorem vec_lt {w:World} {g:Nat} {l:List Value} (h:Vec w g l) (hl:0<l.length):g<w.heap.size:=by
 cases l with
 | nil=>simp at hl
 | cons u l=>exact World.block_lt_of_cell? _ _ (h 0 u rfl).1
theorem vec_keep {w w':World} {g:Nat} {l:List Value} {row:Option Nat} (h:Vec w g l) (hg:w.grownBy w' row) (hr:some g ≠ row):Vec w' g l:=by
 intro i v hi;have hlt:=vec_lt h (by have:=(List.getElem?_eq_some_iff.1 hi).1;omega);have hb:=hg.block g hlt hr;obtain ⟨a,f⟩:=h i v hi;refine ⟨?_,?_⟩
 ·unfold World.cell? at a ⊢;rw [hb];exact a
 ·unfold World.frozen? at f ⊢;rw [hb];exact f
theorem NumsAt.keep {w w':World} {v:Value} {l:List Nat} {row:Option Nat} (h:NumsAt w v l) (hg:w.grownBy w' row) (hr:∀ g,0<l.length→v.ownBlock=some g→some g ≠ row):NumsAt w' v l:=by
 obtain ⟨p,cap,rfl,hc,hv⟩:=h;exact ⟨p,cap,rfl,hc,fun h0=>by obtain ⟨g,rfl,V⟩:=hv h0;exact ⟨g,rfl,vec_keep V hg (hr g h0 rfl)⟩⟩
theorem NumsAt.lt {w:World} {v:Value} {l:List Nat} (h:NumsAt w v l) (h0:0<l.length):∀ g,v.ownBlock=some g→g<w.heap.size:=by
 obtain ⟨p,cap,rfl,hc,hv⟩:=h;intro g hg;obtain ⟨g',rfl,V⟩:=hv h0;have:g'=g:=by simpa [Value.ownBlock] using hg
 subst this;exact vec_lt V (by simpa using h0)
theorem nums_nil (w:World):NumsAt w (.slice none 0 0) []:=⟨none,0,rfl,Nat.le_refl _,fun h=>by simp at h⟩
abbrev OwnI (w:World) (base:Nat) (v:Value) (l:List Nat):Prop:=w.ownsRow base 3 1 v l.length (l.map numV)
theorem ownI_later {w w':World} {base:Nat} {v:Value} {l:List Nat} (h:OwnI w base v l) (hx:Ext w w'):OwnI w' base v l:=by
 refine ⟨h.1,h.2.imp id ?_⟩;rintro ⟨g,cap,cur,h1,h2,h3,h4⟩;have hlt:g<w.heap.size:=by
  rcases Nat.lt_or_ge g w.heap.size with h' | h'
  ·exact h'
  ·rw [Array.getElem?_eq_none h'] at h3;cases h3
 exact ⟨g,cap,cur,h1,h2,by rw [hx.block g hlt];exact h3,h4⟩
theorem ownI_slice {w:World} {base:Nat} {v:Value} {l:List Nat} (h:OwnI w base v l):∃ p c,v=.slice p l.length c∧l.length≤c:=by
 rcases h.2 with ⟨rfl,h0⟩ | ⟨g,cap,cur,rfl,_,_,h3,_⟩
 ·exact ⟨none,0,by rw [h0],by omega⟩
 ·exact ⟨_,_,rfl,h3⟩
theorem ownI_block {w:World} {base:Nat} {v:Value} {l:List Nat} (h:OwnI w base v l):∀ r,v.ownBlock=some r→base≤r:=by
 intro r hr
 rcases h.2 with ⟨rfl,_⟩ | ⟨g,cap,cur,rfl,h2,_⟩
 ·cases hr
 ·have:g=r:=by simpa [Value.ownBlock] using hr
  omega
theorem ownI_nums {w:World} {base:Nat} {v:Value} {l:List Nat} (h:OwnI w base v l):NumsAt w v l:=by
 rcases h.2 with ⟨rfl,h0⟩ | ⟨g,cap,cur,rfl,hb,hg,hc,hz,hcs,htake⟩
 ·exact ⟨none,0,by rw [h0],by omega,fun h=>absurd h0 (by omega)⟩
 ·refine ⟨_,cap,rfl,hc,fun _=>⟨g,rfl,fun i u hi=>?_⟩⟩;have hcell:=h.cells (g:=g) rfl i u hi;rw [show (⟨g,0,none⟩:Addr).add i=⟨g,i,none⟩ by unfold Addr.add;split <;> simp_all] at hcell;refine ⟨hcell,?_⟩;unfold World.frozen?;rw [hg];simp
theorem infoI:∃ inf,Tryz.prog.info? 3=some inf∧inf.zero=some (.int .i64 0)∧inf.size=1∧inf.bytes=8:=by
 have h:(Tryz.prog.info? 3).map (fun i=>(i.zero,i.size,i.bytes))=some (some (.int .i64 0),1,8):=by kernel_rfl
 cases h':Tryz.prog.info? 3 with
 | none=>rw [h'] at h;cases h
 | some inf =>
  rw [h'] at h;simp at h;exact ⟨inf,rfl,h.1,h.2.1,h.2.2⟩
set_option maxRecDepth 8000 in
set_option maxHeartbeats 1000000 in
theorem eqNums (u v:Value) (l:List Nat) (w:World) (hu:NumsAt w u l) (hv:NumsAt w v l) (hl:l.length≤1048576) :
  Calls Tryz.prog 11 #[u,v] w fun e w'=>e=.returned (.bool true)∧Ext w w':=by
 obtain ⟨p,cap,rfl,hcap,hi⟩:=hu;obtain ⟨p2,cap2,rfl,hcap2,hi2⟩:=hv;obtain ⟨L,hL⟩:∃ L,l.length=L:=⟨_,rfl⟩;have HL:Hid (l.length=L):=hL;rw [hL] at hl hcap hcap2 hi hi2 ⊢;have H1:Hid (0<L→∃ g,p=some ⟨g,0,none⟩∧Vec w g (l.map numV)):=hi;have H2:Hid (0<L→∃ g,p2=some ⟨g,0,none⟩∧Vec w g (l.map numV)):=hi2;clear hL hi hi2;go_enter Tryz.func11,Tryz.ntmps11;go_wp2_with fail;go_loopw [5] (fun i wr=>∃ k:Nat,k≤L∧i=.int .i64 k∧Ext w wr) (fun i _=>L - (intOf i).toNat)
 case atStart=>exact ⟨0,by omega,rfl,xr _⟩
 case round =>
  obtain ⟨k,hk,rfl,X⟩:=hrel;by_cases hlt:k<L
  ·obtain ⟨b,rfl,hc⟩:=H1.out (by omega);obtain ⟨b2,rfl,hc2⟩:=H2.out (by omega);obtain ⟨f,hf⟩:∃ f,l[k]?=some f:=⟨_,List.getElem?_eq_getElem (by rw [HL.out];exact hlt)⟩;have c1:=((hc.later X) k (numV f) (by rw [List.getElem?_map,hf];rfl)).1;have c2:=((hc2.later X) k (numV f) (by rw [List.getElem?_map,hf];rfl)).1;have hlt':(k:Int)<(L:Int):=by omega
   clear hc hc2 hf H1 H2;go_wp2_with fail;go_quiet (fail);go_wp2_with fail;go_roundw
   case rel=>exact ⟨k+1,by omega,by go_num,⟨X.os,X.tape,X.output,X.size,X.block⟩⟩
   case measure=>simp [intOf];omega
  ·obtain rfl:k=L:=by omega
   go_wp2_with fail;go_ret;exact ⟨rfl,X⟩
def marksN (k n:Nat):List Nat:=(List.range n).map (k+·)
theorem marksN_length (k n:Nat):(marksN k n).length=n:=by simp [marksN]
theorem marksN_at (k n j:Nat) (h:j<n):(marksN k n)[j]?=some (k+j):=by simp [marksN,h]
set_option maxRecDepth 8000 in
set_option maxHeartbeats 2000000 in
theorem markNums (v:Value) (l:List Nat) (n k0:Nat) (w:World) (h:NumsAt w v l) (hl:l.length=n) (hn:n≤1048576) (h1:1≤k0) (h2:k0≤1000) :
  Calls Tryz.prog 14 #[v,.int .i64 k0] w fun e w'=>e=.returned (.int .i64 ((k0+n:Nat):Int))∧NumsAt w' v (marksN k0 n)∧w.grownBy w' (if n=0 then none else v.ownBlock):=by
 obtain ⟨p,cap,rfl,hcap,hp⟩:=h;rw [hl] at hcap hp ⊢;have HL:Hid (l.length=n):=hl;have H2:Hid (0<n→∃ g,p=some ⟨g,0,none⟩∧Vec w g (l.map numV)):=hp;obtain ⟨row,hrow⟩:∃ q,(if n=0 then none else (Value.slice p n cap).ownBlock)=q:=⟨_,rfl⟩;have HRow:Hid ((if n=0 then none else (Value.slice p n cap).ownBlock)=row):=hrow;rw [hrow];clear hl hp hrow;go_enter Tryz.func14,Tryz.ntmps14;go_wp2_with fail;go_loopw [1,5] (fun q i wr=>∃ k:Nat,k≤n∧i=.int .i64 k∧q=.int .i64 ((k0+k:Nat):Int)∧Hid (0<n→∃ (g:Nat) (M:List Value),p=some ⟨g,0,none⟩∧M.length=n∧(∀ i,i<k→M[i]?=some (numV (k0+i)))∧Vec wr g M)∧Hid (w.grownBy wr row)) (fun _ i _=>n - (intOf i).toNat)
 case atStart=>exact ⟨0,by omega,rfl,rfl,fun h0=>by obtain ⟨g,hg,V⟩:=H2.out h0;exact ⟨g,_,hg,by rw [List.length_map,HL.out],fun i hi=>absurd hi (by omega),V⟩,grown_refl _ _⟩
 case round =>
  obtain ⟨k,hk,rfl,rfl,H,HX⟩:=hrel;by_cases hlt:k<n
  ·obtain ⟨g,M,rfl,hM,hK,V⟩:=H.out (by omega);have HK:Hid (∀ i,i<k→M[i]?=some (numV (k0+i))):=hK;have HMl:Hid (M.length=n):=hM;have hrg:some g=row:=by have:=HRow.out;rw [if_neg (by omega)] at this;exact this
   have i2:(k:Int)<(n:Int):=by omega
   obtain ⟨m,hm⟩:∃ m:Nat,k0+k=m:=⟨_,rfl⟩;have m1:m≤2000000:=by omega
   rw [hm];obtain ⟨a0,f0⟩:=V k _ (List.getElem?_eq_getElem (by omega));have HF:Hid (0<n→∃ (g':Nat) (M':List Value),(some ⟨g,0,none⟩:Option Addr)=some ⟨g',0,none⟩∧M'.length=n∧(∀ i,i<k+1→M'[i]?=some (numV (k0+i)))∧Vec (wr.setCell ⟨g,k,none⟩ (.int .i64 m)) g' M'):=fun _=>by
    refine ⟨g,M.set k (numV m),rfl,by simp [hM],fun i hi=>?_,V.put k (by omega) _⟩;by_cases e:i=k
    ·subst e;rw [List.getElem?_set_self (by omega),hm]
    ·rw [List.getElem?_set_ne (fun q=>e q.symm)];exact HK.out i (by omega)
   have HG:Hid (w.grownBy (wr.setCell ⟨g,k,none⟩ (.int .i64 m)) row):=by
    show World.grownBy _ _ _;rw [← hrg];exact grown_set (by rw [hrg];exact HX.out) _
   obtain ⟨w2,hw2⟩:∃ q,wr.setCell ⟨g,k,none⟩ (.int .i64 m)=q:=⟨_,rfl⟩;rw [hw2] at HF HG;have hnx:((m:Nat):Int)+1=((k0+(k+1):Nat):Int):=by omega
   generalize M[k]=u at a0;clear H HX HK HMl V hM hK H2 hrg HRow hm;go_wp2_with fail;go_roundw
   case rel=>exact ⟨k+1,by omega,by go_num,by first | (rw [hnx]) | (congr 1),HF,HG⟩
   case measure=>simp [intOf];omega
  ·obtain rfl:k=n:=by omega
   go_wp2_with fail;go_ret;refine ⟨rfl,⟨p,cap,by rw [marksN_length],by rw [marksN_length];exact hcap,fun h0=>?_⟩,HX.out⟩;rw [marksN_length] at h0;obtain ⟨g,M,rfl,hM,hK,V⟩:=H.out h0;refine ⟨g,rfl,fun i u hi=>?_⟩;rw [List.getElem?_map] at hi;have hik:i<k:=by
    rcases Nat.lt_or_ge i k with h' | h'
    ·exact h'
    ·rw [List.getElem?_eq_none (by rw [marksN_length];exact h')] at hi;cases hi
   rw [marksN_at _ _ _ hik] at hi;exact V i u ((hK i hik).trans hi)
set_option maxRecDepth 8000 in
set_option maxHeartbeats 2000000 in
theorem heldNums (v:Value) (n k0:Nat) (w:World) (h:NumsAt w v (marksN k0 n)) (hn:n≤1048576) (h1:1≤k0) (h2:k0≤1000) :
  Calls Tryz.prog 15 #[v,.int .i64 k0] w fun e w'=>e=.returned (.int .i64 ((k0+n:Nat):Int))∧Ext w w':=by
 obtain ⟨p,cap,rfl,hcap,hp⟩:=h;rw [marksN_length] at hcap hp ⊢;have HV:Hid (0<n→∃ g,p=some ⟨g,0,none⟩∧Vec w g ((marksN k0 n).map numV)):=hp;clear hp;go_enter Tryz.func15,Tryz.ntmps15;go_wp2_with fail;go_loopw [1,5] (fun a i wr=>∃ k:Nat,k≤n∧i=.int .i64 k∧a=.int .i64 ((k0+k:Nat):Int)∧Ext w wr) (fun _ i _=>n - (intOf i).toNat)
 case atStart=>exact ⟨0,by omega,rfl,rfl,xr _⟩
 case round =>
  obtain ⟨k,hk,rfl,rfl,X⟩:=hrel;by_cases hlt:k<n
  ·have i2:(k:Int)<(n:Int):=by omega
   obtain ⟨m,hm⟩:∃ m,k0+k=m:=⟨_,rfl⟩;have m1:m≤2000000:=by omega
   obtain ⟨g,rfl,V⟩:=HV.out (by omega);have a0:=((V.later X) k (numV m) (by rw [List.getElem?_map,marksN_at _ _ _ hlt,hm];rfl)).1;rw [hm];have hnx:((m:Nat):Int)+1=((k0+(k+1):Nat):Int):=by omega
   clear V HV;go_wp2_with fail;go_roundw
   case rel=>exact ⟨k+1,by omega,by go_num,by first | (rw [hnx]) | (congr 1),⟨X.os,X.tape,X.output,X.size,X.block⟩⟩
   case measure=>simp [intOf];omega
  ·obtain rfl:k=n:=by omega
   go_wp2_with fail;go_ret;exact ⟨rfl,X⟩
def cel (l:List VT) (k:Nat):VT:=l.getD k zeroVT
theorem cel_at {l:List VT} {k:Nat} (h:k<l.length):l[k]?=some (cel l k):=by
 rw [List.getElem?_eq_getElem h];simp [cel,h]
theorem cel_mem {l:List VT} {k:Nat} (h:k<l.length):cel l k ∈ l:=List.mem_of_getElem? (cel_at h)
set_option maxRecDepth 8000 in
set_option maxHeartbeats 2000000 in
theorem atI (r:Int) (c:Nat) (v:Value) (l:List VT) (i j:Nat) (w:World) (h:ValsIn w v l) (hl:l.length≤2000) (hk:i * c+j<l.length) :
  Calls Tryz.prog 67 #[grV r c v,.int .i64 i,.int .i64 j] w fun e w'=>e=.returned (cel l (i * c+j)).val∧Ext w w':=by
 obtain ⟨pp,cap,rfl,hcap,hrow⟩:=h;have he:=cel_at hk;obtain ⟨e,hee⟩:∃ e,cel l (i * c+j)=e:=⟨_,rfl⟩;rw [hee] at he ⊢;obtain ⟨N,hN⟩:∃ N,l.length=N:=⟨_,rfl⟩;obtain ⟨m,hm⟩:∃ m,i * c=m:=⟨_,rfl⟩;have hm':(i:Int) * (c:Int)=(m:Int):=by rw [← hm];simp
 rw [hN] at hcap hl hk hrow ⊢;rw [hm] at hk he;obtain ⟨b,o,hpp,hrw⟩:=hrow (by omega);subst hpp;have hmj:(m:Int)+(j:Int)=((m+j:Nat):Int):=by omega
 obtain ⟨q,hq⟩:∃ q,m+j=q:=⟨_,rfl⟩;rw [hq] at hmj hk he;have q1:(q:Int)<(N:Int):=by omega
 have m0:(m:Int)≤2000:=by omega
 have j0:(j:Int)≤2000:=by omega
 obtain ⟨u0,u1,h0,h1,s0,s1,B0,B1,X⟩:=mkB2 w [.int .i64 r,.int .i64 c,.slice (some ⟨b,o,none⟩) N cap] [.int .i64 0,.bool false,.int .i64 0,.int .i64 0,sV []] 35 39;obtain ⟨a0,a1,a2⟩:=Vec.three (B0);obtain ⟨d0,d1,d2,d3,d4⟩:=(hrw.later X).five he;obtain ⟨wy,hy,FX,⟨b0,b1,b2,b3,b4⟩,⟨fb0,fb1,fb2,fb3,fb4⟩,fd0,fd1,fd2,fd3,fd4⟩:=fin5 B1 X (by omega) e.k e.n e.d e.x e.t;clear hee hm hq hN hrow hrw he;go_enter Tryz.func67,Tryz.ntmps67;go_wp2_with fail;exact bodyPost_ret (v:=e.val) (by simp [results,Tryz.results67,go_sem,fd0,fd1,fd2,fd3,fd4]) rfl ⟨rfl,FX⟩
def colL (l:List VT) (c j n:Nat):List VT:=(List.range n).map fun i=>cel l (i * c+j)
theorem colL_length (l:List VT) (c j n:Nat):(colL l c j n).length=n:=by simp [colL]
theorem colL_succ (l:List VT) (c j n:Nat):colL l c j (n+1)=colL l c j n++[cel l (n * c+j)]:=by simp [colL,List.range_succ]
theorem colL_at (l:List VT) (c j n:Nat) {i:Nat} (hi:i<n):(colL l c j n)[i]?=some (cel l (i * c+j)):=by simp [colL,hi]
theorem place_lt {i r c j:Nat} (hi:i<r) (hj:j<c):i * c+j<r * c:=by
 have:(i+1) * c≤r * c:=Nat.mul_le_mul_right c hi;rw [Nat.add_mul,Nat.one_mul] at this;omega
set_option maxRecDepth 8000 in
set_option maxHeartbeats 2000000 in
theorem columnI (r c:Nat) (v:Value) (l:List VT) (j:Nat) (w:World) (h:ValsIn w v l) (hl:l.length=r * c) (h2:l.length≤2000) (hj:j<c) (hr:r≤2000) :
  Calls Tryz.prog 41 #[grV r c v,.int .i64 j] w fun e w'=>∃ sv,e=.returned sv∧OwnW w' w.heap.size sv (colL l c j r)∧Ext w w':=by
 have AT:Hid (∀ (W:World) (i:Nat),ValsIn W v l→i<r→Calls Tryz.prog 67 #[grV r c v,.int .i64 i,.int .i64 j] W fun e w'=>e=.returned (cel l (i * c+j)).val∧Ext W w'):=fun W i hW hi=>atI r c v l i j W hW h2 (by rw [hl];exact place_lt hi hj);have HV:Hid (ValsIn w v l):=h;have X0:=x1 w (.cells #[.int .i64 r,.int .i64 c,v] 35);have B0:=vec_made w [.int .i64 r,.int .i64 c,v] 35;have S0:(w.alloc (.cells #[.int .i64 r,.int .i64 c,v] 35)).heap.size=w.heap.size+1:=by rw [World.size_alloc]
 obtain ⟨u0,hu0⟩:∃ u,w.alloc (.cells #[.int .i64 r,.int .i64 c,v] 35)=u:=⟨_,rfl⟩;change Vec (w.alloc (.cells #[.int .i64 r,.int .i64 c,v] 35)) _ _ at B0;rw [hu0] at X0 B0 S0;obtain ⟨a0,a1,a2⟩:=Vec.three B0;clear h hl h2;go_enter Tryz.func41,Tryz.ntmps41;go_wp2_with fail;clear a0 a1 a2;go_loopw [5,9] (fun s i wr=>∃ (k n cc:Nat) (p:Option Addr),k≤r∧i=.int .i64 k∧s=.slice p n cc∧Hid (OwnW wr (w.heap.size+1) (.slice p n cc) (colL l c j k)∧Ext u0 wr)) (fun _ i _=>r - (intOf i).toNat)
 case atStart=>exact ⟨0,0,0,none,by omega,rfl,rfl,World.ownsRow_nil _ _ _ _,xr _⟩
 case round =>
  obtain ⟨k,n,cc,p,hk,rfl,rfl,HO⟩:=hrel;have B1:=B0.later HO.out.2;by_cases hlt:k<r
  ·have i2:(k:Int)<(r:Int):=by omega
   have CA:=AT.out wr k (HV.out.later (xt X0 HO.out.2)) hlt;obtain ⟨⟨ek,en,ed,ex,et⟩,he⟩:∃ e,cel l (k * c+j)=e:=⟨_,rfl⟩;rw [he] at CA;have HE:Hid (cel l (k * c+j)=⟨ek,en,ed,ex,et⟩):=he;obtain ⟨a0,a1,a2⟩:=Vec.three B1;clear he;go_wp2_with fail;refine CA.mono ?_;rintro z w1 ⟨rfl,e1⟩;have OQ:Hid (OwnW w1 (w.heap.size+1) (.slice p n cc) (colL l c j k)):=ownW_later HO.out.1 e1;have Y1:=xt HO.out.2 e1;obtain ⟨inf,hi,hz,hz1,hz2⟩:=infoW;have lk:=colL_length l c j k;have hs1:w.heap.size+1≤w1.heap.size:=by have:=Y1.size;omega
   clear a0 a1 a2 B1 CA HO;go_wp2_with (at_builtin;refine wpList_append_own _ rfl _ _ 33 rfl (w.heap.size+1) 39 inf (valV 0 false 0 0 []) 5 48 Tryz.underlying33 hi hz hz1 hz2 rfl (by decide) _ _ _ rfl (OQ.out.alloc _) ⟨w1.heap.size,0,none⟩ 1 1 [.int .i64 ek,.bool en,.int .i64 ed,.int .i64 ex,sV et] rfl rfl (World.news_of_block (heap_alloc_new _ _)) (by simp [Value.oneCell']) (by simp only [maxLen,lk];omega) (by rw [lk];omega) (by simp;omega) ?_);intro v7 wC ownC gC _;have lb:=ownW_block OQ.out;have Y5:Ext u0 wC:=(xa Y1 _).grown gC (xa Y1 _).size (fun r hr=>by have:=lb r hr;omega);have OC:OwnW wC (w.heap.size+1) v7 (colL l c j (k+1)):=by
    rw [colL_succ,HE.out];show World.ownsRow _ _ _ _ _ _ _;rw [flatV_append,List.length_append,lk];exact ownC
   obtain ⟨p7,n7,c7,rfl⟩:=ownW_slice OC;have HN:Hid (OwnW wC (w.heap.size+1) (.slice p7 n7 c7) (colL l c j (k+1))∧Ext u0 wC):=⟨OC,Y5⟩;clear ownC gC lb OQ Y1 hi hz hz1 hz2 Y5 OC;go_wp2_with fail;go_roundw
   case rel=>exact ⟨k+1,n7,c7,p7,by omega,by go_num,rfl,HN⟩
   case measure=>simp [intOf];omega
  ·obtain rfl:k=r:=by omega
   have i2:¬ (k:Int)<(k:Int):=by omega
   go_wp2_with fail;go_ret;exact ⟨_,rfl,ownW_base HO.out.1 (by omega),xt X0 HO.out.2⟩
set_option maxRecDepth 8000 in
set_option maxHeartbeats 2000000 in
theorem fromI (r:Nat) (w:World) (hr:r≤2000) :
  Calls Tryz.prog 43 #[.int .i64 0,.int .i64 r] w fun e w'=>∃ sv,e=.returned sv∧OwnI w' w.heap.size sv (List.range r)∧Ext w w':=by
 go_enter Tryz.func43,Tryz.ntmps43;go_wp2_with fail;go_loopw [5,6] (fun s i wr=>∃ (k n cc:Nat) (p:Option Addr),k≤r∧i=.int .i64 k∧s=.slice p n cc∧Hid (OwnI wr w.heap.size (.slice p n cc) (List.range k)∧Ext w wr)) (fun _ i _=>r - (intOf i).toNat)
 case atStart=>exact ⟨0,0,0,none,by omega,rfl,rfl,World.ownsRow_nil _ _ _ _,xr _⟩
 case round =>
  obtain ⟨k,n,cc,p,hk,rfl,rfl,HO⟩:=hrel;by_cases hlt:k<r
  ·have i2:(k:Int)<(r:Int):=by omega
   have OQ:Hid (OwnI wr w.heap.size (.slice p n cc) (List.range k)):=HO.out.1;have Y1:=HO.out.2;have hs1:=Y1.size;obtain ⟨inf,hi,hz,hz1,hz2⟩:=infoI;clear HO;go_wp2_with (at_builtin;refine wpList_append_own _ rfl _ _ 31 rfl w.heap.size 3 inf (.int .i64 0) 1 8 Tryz.underlying31 hi hz hz1 hz2 rfl (by decide) _ _ _ rfl (OQ.out.alloc _) ⟨wr.heap.size,0,none⟩ 1 1 [.int .i64 k] rfl rfl (World.news_of_block (heap_alloc_new wr (.cells [.int .i64 (k:Int)].toArray 3))) (by simp [Value.oneCell']) (by simp only [maxLen,List.length_range];omega) (by rw [List.length_range];omega) (by simp;omega) ?_);intro v7 wC ownC gC _;have lb:=ownI_block OQ.out;have Y5:Ext w wC:=(xa Y1 _).grown gC (xa Y1 _).size (fun r hr=>lb r hr);have OC:OwnI wC w.heap.size v7 (List.range (k+1)):=by
    rw [List.range_succ];show World.ownsRow _ _ _ _ _ _ _;rw [List.map_append,List.length_append,List.length_range];exact ownC
   obtain ⟨p7,c7,rfl,_⟩:=ownI_slice OC;have HN:Hid (OwnI wC w.heap.size (.slice p7 (List.range (k+1)).length c7) (List.range (k+1))∧Ext w wC):=⟨OC,Y5⟩;clear ownC gC lb OQ Y1 hi hz hz1 hz2 Y5 OC;obtain ⟨n7,hn7⟩:∃ q,(List.range (k+1)).length=q:=⟨_,rfl⟩;rw [hn7] at HN ⊢;clear hn7;go_wp2_with fail;go_roundw
   case rel=>exact ⟨k+1,n7,c7,p7,by omega,by go_num,rfl,HN⟩
   case measure=>simp [intOf];omega
  ·obtain rfl:k=r:=by omega
   have i2:¬ (k:Int)<(k:Int):=by omega
   go_wp2_with fail;go_ret;exact ⟨_,rfl,HO.out.1,HO.out.2⟩
set_option maxHeartbeats 1000000 in
theorem lacksI (r c:Int) (v:Value) (x:Int) (w:World) :
  Calls Tryz.prog 40 #[grV r c v,.int .i64 x] w fun e w'=>e=.returned (.bool (decide (x<1∨c<x)))∧Ext w w':=by
 have X0:=x1 w (.cells #[.int .i64 r,.int .i64 c,v] 35);have B0:=vec_made w [.int .i64 r,.int .i64 c,v] 35;obtain ⟨a0,a1,a2⟩:=Vec.three B0;by_cases h1:x<1
 ·rw [decide_eq_true (Or.inl h1)];have f1:decide (x<1)=true:=decide_eq_true h1;go_enter Tryz.func40,Tryz.ntmps40;go_wp2_with fail;go_ret;exact ⟨rfl,X0⟩
 ·have f1:decide (x<1)=false:=decide_eq_false h1;have e:decide (x<1∨c<x)=decide (c<x):=decide_eq_decide.2 ⟨fun h=>h.resolve_left h1,Or.inr⟩;rw [e];go_enter Tryz.func40,Tryz.ntmps40;go_wp2_with fail;go_ret;exact ⟨rfl,X0⟩
structure Asks (f:Nat) (lb:Array Value) (l:List Nat) (p:Nat→Bool) (I:World→Prop):Prop where
 ent:∀ args w,(callFunc f args).run Tryz.prog w=.ok (.enter f args) w
 says:∀ W x,I W→x ∈ l→Calls Tryz.prog f (#[numV x]++lb) W fun e w'=>e=.returned (.bool (p x))∧Ext W w'
 later:∀ W W',I W→Ext W W'→I W'
set_option maxRecDepth 8000 in
set_option maxHeartbeats 2000000 in
theorem indexFI (f:Nat) (lb:Array Value) (l:List Nat) (p:Nat→Bool) (I:World→Prop) (A:Asks f lb l p I) (g cap:Nat) (w:World) (h:Vec w g (l.map numV)) (hc:l.length≤cap) (hl:l.length≤2000) (hw:I w) :
  Calls Tryz.prog 68 #[.slice (some ⟨g,0,none⟩) l.length cap,.func (.func f) #[] lb] w fun e w' =>
   ((e=.returned (.int .i64 (-1))∧∀ x ∈ l,p x=false)∨∃ m:Nat,e=.returned (.int .i64 m)∧m<l.length∧(∀ x,l[m]?=some x→p x=true)∧∀ j x,j<m→l[j]?=some x→p x=false)∧Ext w w':=by
 have ent:=A.ent;have HA:Hid (Asks f lb l p I):=A;have HV:Hid (Vec w g (l.map numV)∧I w):=⟨h,hw⟩;obtain ⟨n,hn⟩:∃ n,l.length=n:=⟨_,rfl⟩;have HN:Hid (l.length=n):=hn;rw [hn] at hc hl ⊢;clear h hw A hn;go_enter Tryz.func68,Tryz.ntmps68;go_wp2_with fail;go_loopw [8] (fun i wr=>∃ k:Nat,k≤n∧i=.int .i64 k∧Hid (Ext w wr∧∀ j x,j<k→l[j]?=some x→p x=false)) (fun i _=>n - (intOf i).toNat)
 case atStart=>exact ⟨0,by omega,rfl,xr _,fun j x hj=>absurd hj (by omega)⟩
 case round =>
  obtain ⟨k,hk,rfl,HO⟩:=hrel;by_cases hlt:k<n
  ·have i2:(k:Int)<(n:Int):=by omega
   obtain ⟨x,hx⟩:∃ x,l[k]?=some x:=⟨_,List.getElem?_eq_getElem (by rw [HN.out];exact hlt)⟩;have a0:=((HV.out.1.later HO.out.1) k (numV x) (by rw [List.getElem?_map,hx];rfl)).1;have CA:=HA.out.says wr x (HA.out.later _ _ HV.out.2 HO.out.1) (List.mem_of_getElem? hx);have HX:Hid (l[k]?=some x):=hx;obtain ⟨q,hq⟩:∃ q,p x=q:=⟨_,rfl⟩;have HQ:Hid (p x=q):=hq;rw [hq] at CA;clear hx hq;cases q
   ·go_wp2_with (go_at_fn f;refine CA.mono ?_;rintro e w1 ⟨rfl,e1⟩);have HM:Hid (Ext w w1∧∀ j x,j<k+1→l[j]?=some x→p x=false):=⟨xt HO.out.1 e1,fun j y hj hy=>by
     by_cases e:j=k
     ·subst e;rw [HX.out] at hy;cases hy;exact HQ.out
     ·exact HO.out.2 j y (by omega) hy⟩
    go_roundw
    case rel=>exact ⟨k+1,by omega,by go_num,HM⟩
    case measure=>simp [intOf];omega
   ·go_wp2_with (go_at_fn f;refine CA.mono ?_;rintro e w1 ⟨rfl,e1⟩);go_ret;exact ⟨Or.inr ⟨k,rfl,by omega,fun y hy=>by rw [HX.out] at hy;cases hy;exact HQ.out,HO.out.2⟩,xt HO.out.1 e1⟩
  ·obtain rfl:k=n:=by omega
   have i2:¬ (k:Int)<(k:Int):=by omega
   go_wp2_with fail;go_ret;exact ⟨Or.inl ⟨rfl,fun x hx=>by
    obtain ⟨j,hj,rfl⟩:=List.getElem_of_mem hx;exact HO.out.2 j _ (by rw [← HN.out];exact hj) (List.getElem?_eq_getElem hj)⟩,HO.out.1⟩
structure Kept (l:List Nat) (p:Nat→Bool) (j i:Nat) (M:List Nat):Prop where
 len:M.length=l.length
 lt:i<j
 le:j≤l.length
 ahead:M.take i=(l.take j).filter fun x=>!p x
 rest:∀ t,j≤t→M[t]?=l[t]?
theorem Kept.num {l:List Nat} {p:Nat→Bool} {j i:Nat} {M:List Nat} (K:Kept l p j i M):((l.take j).filter fun x=>!p x).length=i:=by
 rw [← K.ahead,List.length_take,K.len];have:=K.lt;have:=K.le;omega
theorem Kept.start {l:List Nat} {p:Nat→Bool} {k:Nat} (hk:k<l.length) (hp:∀ x,l[k]?=some x→p x=true) (ha:∀ j x,j<k→l[j]?=some x→p x=false):Kept l p (k+1) k l:=by
 refine ⟨rfl,Nat.lt_succ_self _,hk,?_,fun _ _=>rfl⟩;rw [List.take_add_one,List.getElem?_eq_getElem hk,List.filter_append];have e1:(l.take k).filter (fun x=>!p x)=l.take k:=by
  rw [List.filter_eq_self];intro x hx;obtain ⟨j,hj,rfl⟩:=List.getElem_of_mem hx;rw [List.length_take] at hj;rw [List.getElem_take,ha j _ (by omega) (List.getElem?_eq_getElem (by omega))];rfl
 rw [e1];have:=hp _ (List.getElem?_eq_getElem hk);simp [this]
theorem Kept.keep {l:List Nat} {p:Nat→Bool} {j i x:Nat} {M:List Nat} (K:Kept l p j i M) (hx:l[j]?=some x) (hp:p x=false):Kept l p (j+1) (i+1) (M.set i x):=by
 have hj:j<l.length:=(List.getElem?_eq_some_iff.1 hx).1;have h1:=K.lt;have h2:=K.len;refine ⟨by simp [K.len],by omega,hj,?_,fun t ht=>?_⟩
 ·have e1:(l.take (j+1)).filter (fun x=>!p x)=(l.take j).filter (fun x=>!p x)++[x]:=by
   rw [List.take_add_one,hx,List.filter_append];simp [hp]
  have e2:(M.set i x).take (i+1)=M.take i++[x]:=by
   rw [List.take_add_one,List.getElem?_set_self (by omega),List.take_set_of_le (Nat.le_refl _)];rfl
  rw [e1,e2,K.ahead]
 ·rw [List.getElem?_set_ne (by omega)];exact K.rest t (by omega)
theorem Kept.skip {l:List Nat} {p:Nat→Bool} {j i x:Nat} {M:List Nat} (K:Kept l p j i M) (hx:l[j]?=some x) (hp:p x=true):Kept l p (j+1) i M:=by
 have hj:j<l.length:=(List.getElem?_eq_some_iff.1 hx).1;refine ⟨K.len,Nat.lt_succ_of_lt K.lt,hj,?_,fun t ht=>K.rest t (by omega)⟩;rw [List.take_add_one,hx,List.filter_append,← K.ahead];simp [hp]
theorem setCells_vec {g:Nat} {L:List Value}:∀ (us:List Value) (o:Nat) (w:World),L.length≤o→Vec w g L→Vec (w.setCells g o us) g L
 | [],_,_,_,h=>h
 | u :: us,o,w,ho,h=>setCells_vec us (o+1) _ (by omega) (fun i v hi=>by
   have hlt:=(List.getElem?_eq_some_iff.1 hi).1;obtain ⟨a,f⟩:=h i v hi;refine ⟨?_,?_⟩
   ·rw [World.cell?_setCell_other _ _ _ _ (fun e=>by cases e;omega)];exact a
   ·rw [World.frozen?_setCell];exact f)
theorem setCells_grown {w:World} {g:Nat}:∀ (us:List Value) (o:Nat) (w':World),w.grownBy w' (some g)→w.grownBy (w'.setCells g o us) (some g)
 | [],_,_,h=>h
 | u :: us,o,_,h=>setCells_grown us (o+1) _ (grown_set h u)
end Go.Proofs.YtiaakhogigddbaaGreatDoor

