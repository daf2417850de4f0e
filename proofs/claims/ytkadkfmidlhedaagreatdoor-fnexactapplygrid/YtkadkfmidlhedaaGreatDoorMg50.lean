/-
  Several texts in one: W9t, W9h.
-/
import Derived.Test.YtkadkfmidlhedaaGreatDoorMg43
import Derived.Test.YtkadkfmidlhedaaGreatDoorMg48
import Derived.Laws.IdiomStrings
import Derived.Test.YtkadkfmidlhedaaGreatDoorMg25
namespace Go.Proofs.YtkadkfmidlhedaaGreatDoor
open Go.RowKit
def mtF:Nat→Nat→List UInt8→List UInt8
 | 0,_,s=>s
 | f+1,k,s=>if k=0 then s else mtF f (k / 10) (UInt8.ofNat (48+k % 10) :: s)
theorem mtF_zero (f:Nat) (s:List UInt8):mtF f 0 s=s:=by cases f <;> rfl
def markT (k:Nat):List UInt8:=109 :: mtF k k []
set_option maxRecDepth 8000 in
set_option maxHeartbeats 2000000 in
theorem markTextL (k:Nat) (w:World) (h1:1≤k) (h2:k≤100000000) :
  Calls Tryz.prog 122 #[.int .i64 k] w fun e w'=>e=.returned (sV (markT k))∧Ext w w':=by
 have f1:decide ((k:Int)≤0)=false:=by simp;omega
 obtain ⟨T,hT⟩:∃ T,mtF k k []=T:=⟨_,rfl⟩;have HT:Hid (mtF k k []=T):=hT;have HM:Hid (markT k=109 :: T):=by show _=_;unfold markT;rw [hT]
 clear hT;go_enter Tryz.func122,Tryz.ntmps122;go_wp2_with fail;go_loopw [0,3] (fun a b wr=>∃ (m f:Nat) (s:ByteArray),a=.int .i64 m∧b=.string s∧m≤f∧f≤100000000∧Hid (mtF f m s.data.toList=T)∧s.size+f≤k∧Ext w wr) (fun a _ _=>(intOf a).toNat)
 case atStart=>exact ⟨k,k,_,rfl,rfl,by omega,h2,HT,by show 0+k≤k;omega,xr _⟩
 case round =>
  obtain ⟨m,f,s,rfl,rfl,hmf,hf,HN,hsz,X⟩:=hrel;by_cases hm0:m=0
  ·subst hm0;have HE:Hid (s.data.toList=T):=by have:=HN.out;rw [mtF_zero] at this;exact this
   have hss:(⟨#[109]⟩:ByteArray).size+s.size≤9223372036854775807:=by show 1+_≤_;omega
   have HZ:Hid ((⟨#[109]⟩++s:ByteArray)=⟨(markT k).toArray⟩):=by
    show _=_;rw [HM.out,← HE.out];apply ByteArray.ext;rw [ByteArray.data_append];apply Array.ext';simp
   go_wp2_with fail;go_ret;exact ⟨congrArg (fun z=>Ending.returned (Value.string z)) HZ.out,X⟩
  ·obtain ⟨f,rfl⟩:∃ g,f=g+1:=⟨f - 1,by omega⟩;have hm1:decide ((m:Int) > 0)=true:=by simp;omega
   obtain ⟨a,ha⟩:∃ a:Nat,m % 10=a:=⟨_,rfl⟩;obtain ⟨q,hq⟩:∃ q:Nat,m / 10=q:=⟨_,rfl⟩;have ha':(m:Int).tmod 10=(a:Int):=by rw [Int.tmod_eq_emod_of_nonneg (by omega)];omega
   have hq':(m:Int).tdiv 10=(q:Int):=by rw [Int.tdiv_eq_ediv_of_nonneg (by omega)];omega
   have a10:a<10:=by omega
   have q200:q<m:=by omega
   have hcv:=run_convert_bytes_back (P:=Tryz.prog) (wr.alloc (.cells #[.int .u8 (48+(a:Int))] 5)) 22 9 5 ⟨wr.heap.size,0,none⟩ 1 [UInt8.ofNat (48+a)] Tryz.underlying22 Tryz.underlying5 Tryz.underlying9 (fun j hj=>by
    have hj':j=0:=(by simpa using hj);subst hj';simp [go_sem];omega)
   rw [List.length_singleton] at hcv;obtain ⟨t,ht⟩:∃ t:ByteArray,(⟨[UInt8.ofNat (48+a)].toArray⟩:ByteArray)=t:=⟨_,rfl⟩;rw [ht] at hcv;have hts:t.data.toList=[UInt8.ofNat (48+a)]:=by rw [← ht]
   have htz:=size_ofL' hts;have HN2:Hid (mtF f q (t++s).data.toList=T):=by
    have h:=HN.out;unfold mtF at h;rw [if_neg hm0,ha,hq] at h;show _=_;rw [ByteArray.data_append,Array.toList_append,hts];exact h
   simp only [List.length_singleton] at htz;have hw8:IntKind.u8.wrap (48+(a:Int))=48+(a:Int):=by rw [IntKind.wrap_u8];omega
   clear ha hq hts ht HN HT HM;go_wp2_with fail;go_roundw
   case rel=>exact ⟨q,f,_,rfl,rfl,by omega,by omega,HN2,by rw [ByteArray.size_append];omega,xa X _⟩
   case measure=>simp [intOf];omega
def markE (m:Nat):VT:=⟨m,((m:Int)+1) % 3 == 0,(m:Int)+1+1,(m:Int)+1+1+1,markT (m+4)⟩
def MarkedV (M:List Value) (k0 n:Nat):Prop:=∀ i,i<n→∀ j,j<5→M[i * 5+j]?=(markE (k0+i * 5)).cells[j]?
def put5L (M:List Value) (o:Nat) (u0 u1 u2 u3 u4:Value):List Value:=((((M.set o u0).set (o+1) u1).set (o+1+1) u2).set (o+1+2) u3).set (o+4) u4
theorem put5L_length (M:List Value) (o:Nat) (u0 u1 u2 u3 u4:Value):(put5L M o u0 u1 u2 u3 u4).length=M.length:=by simp [put5L]
theorem put5L_far (M:List Value) (o:Nat) (u0 u1 u2 u3 u4:Value) {i:Nat} (h:i<o):(put5L M o u0 u1 u2 u3 u4)[i]?=M[i]?:=by
 unfold put5L;rw [List.getElem?_set_ne (by omega),List.getElem?_set_ne (by omega),List.getElem?_set_ne (by omega),List.getElem?_set_ne (by omega),List.getElem?_set_ne (by omega)]
theorem put5L_at (M:List Value) (o:Nat) (u0 u1 u2 u3 u4:Value) (hM:o+5≤M.length) (j:Nat) (hj:j<5):(put5L M o u0 u1 u2 u3 u4)[o+j]?=[u0,u1,u2,u3,u4][j]?:=by
 unfold put5L
 match j,hj with
 | 0,_=>rw [List.getElem?_set_ne (by omega),List.getElem?_set_ne (by omega),List.getElem?_set_ne (by omega),List.getElem?_set_ne (by omega)];exact List.getElem?_set_self (by omega)
 | 1,_=>rw [List.getElem?_set_ne (by omega),List.getElem?_set_ne (by omega),List.getElem?_set_ne (by omega)];exact List.getElem?_set_self (by simp;omega)
 | 2,_=>rw [List.getElem?_set_ne (by omega),List.getElem?_set_ne (by omega)];exact List.getElem?_set_self (by simp;omega)
 | 3,_=>rw [List.getElem?_set_ne (by omega)];exact List.getElem?_set_self (by simp;omega)
 | 4,_=>exact List.getElem?_set_self (by simp;omega)
theorem MarkedV.next {M:List Value} {k0 k n:Nat} (h:MarkedV M k0 k) (hM:M.length=n * 5) (hk:k<n) (m:Nat) (hm:k0+k * 5=m) :
  MarkedV (put5L M (k * 5) (.int .i64 m) (.bool (((m:Int)+1) % 3 == 0)) (.int .i64 ((m:Int)+1+1)) (.int .i64 ((m:Int)+1+1+1)) (sV (markT (m+4)))) k0 (k+1):=by
 intro i hi j hj;by_cases e:i=k
 ·subst e;rw [put5L_at _ _ _ _ _ _ _ (by omega) j hj,hm];rfl
 ·rw [put5L_far _ _ _ _ _ _ _ (by omega)];exact h i (by omega) j hj
def RowAt (w:World) (v:Value) (n:Nat) (M:List Value):Prop:=
 M.length=n * 5∧∃ p cap,v=.slice p n cap∧n≤cap∧(0<n→∃ g,p=some ⟨g,0,none⟩∧Vec w g M)
theorem RowAt.later {w w':World} {v:Value} {n:Nat} {M:List Value} (h:RowAt w v n M) (e:Ext w w'):RowAt w' v n M:=by
 obtain ⟨h1,p,cap,hv,hc,hg⟩:=h;refine ⟨h1,p,cap,hv,hc,fun h0=>?_⟩;obtain ⟨g,hp,hV⟩:=hg h0;exact ⟨g,hp,hV.later e⟩
theorem RowAt.of_own {w:World} {g:Nat} {l:List VT} {n:Nat} (h:OwnV w g l) (hn:l.length=n):RowAt w (.slice (some ⟨g,0,none⟩) n n) n (flatV l):=by
 refine ⟨by rw [flatV_length,hn],_,n,rfl,Nat.le_refl _,fun _=>⟨g,rfl,fun i u hi=>?_⟩⟩;have hlt:i<l.length * 5:=by rw [← flatV_length];exact (List.getElem?_eq_some_iff.1 hi).1
 obtain ⟨e,he⟩:∃ e,l[i / 5]?=some e:=⟨_,List.getElem?_eq_getElem (by omega)⟩;have hj:i % 5<5:=Nat.mod_lt _ (by omega);have hi':i / 5 * 5+i % 5=i:=by omega
 have:=flatV_at he (i % 5) hj;rw [hi',hi] at this;have q:=h _ e he (i % 5) u this.symm;rw [hi'] at q;exact q
theorem RowAt.of_row {w:World} {base:Nat} {v:Value} {l:List VT} (h:OwnW w base v l):RowAt w v l.length (flatV l):=by
 refine ⟨flatV_length l,?_⟩
 rcases h.2 with ⟨rfl,h0⟩ | ⟨g,cap,cur,rfl,hb,hg,hc,_,hcs,htake⟩
 ·exact ⟨none,0,by rw [h0],by omega,fun h=>absurd h0 (by omega)⟩
 ·refine ⟨_,cap,rfl,hc,fun _=>⟨g,rfl,fun i u hi=>⟨?_,?_⟩⟩⟩
  ·have:=h.cells (g:=g) rfl i u hi;rw [show (⟨g,0,none⟩:Addr).add i=⟨g,i,none⟩ by unfold Addr.add;split <;> simp_all] at this;exact this
  ·simp [World.frozen?,hg]
theorem RowAt.vals {w:World} {v:Value} {l:List VT} (h:RowAt w v l.length (flatV l)):ValsIn w v l:=by
 obtain ⟨_,p,cap,rfl,hc,hg⟩:=h;refine ⟨p,cap,rfl,hc,fun h0=>?_⟩;obtain ⟨g,hp,V⟩:=hg h0;refine ⟨g,0,hp,fun i e hi c u hu=>?_⟩;rw [Nat.zero_add];exact (V _ u ((flatV_at hi c (cells_lt hu)).trans hu)).1
theorem RowAt.far {w:World} {v:Value} {l:List VT} (h:RowAt w v l.length (flatV l)) {b:Nat} {i0 i1:Int} {s:Value} (B:Vec w b [.int .i64 i0,.int .i64 i1,s]) (us:List Value):RowAt (setL w b 0 us) v l.length (flatV l):=by
 obtain ⟨h1,p,cap,rfl,hc,hg⟩:=h;refine ⟨h1,p,cap,rfl,hc,fun h0=>?_⟩;obtain ⟨g,hp,V⟩:=hg h0;refine ⟨g,hp,Vec.farL (fun e=>?_) us 0 V⟩;subst e;obtain ⟨e0,he⟩:∃ e,l[0]?=some e:=⟨_,List.getElem?_eq_getElem h0⟩;have q1:=(V (0 * 5+1) _ ((flatV_at he 1 (by omega)).trans rfl)).1;have q2:=(B 1 _ rfl).1;rw [show 0 * 5+1=1 from rfl,q2] at q1;cases q1
theorem RowAt.keep {w w':World} {v:Value} {n:Nat} {M:List Value} {row:Option Nat} (h:RowAt w v n M) (hg:w.grownBy w' row) (hr:∀ g,0<n→v.ownBlock=some g→some g ≠ row):RowAt w' v n M:=by
 obtain ⟨h1,p,cap,rfl,hc,hp⟩:=h;refine ⟨h1,p,cap,rfl,hc,fun h0=>?_⟩;obtain ⟨g,rfl,V⟩:=hp h0;have hlt:g<w.heap.size:=World.block_lt_of_cell? w ⟨g,0,none⟩ (V 0 _ (List.getElem?_eq_getElem (by omega))).1;exact ⟨g,rfl,vec_same V (hg.block g hlt (hr g h0 rfl))⟩
theorem RowAt.lt {w:World} {v:Value} {n:Nat} {M:List Value} (h:RowAt w v n M) (h0:0<n):∀ g,v.ownBlock=some g→g<w.heap.size:=by
 intro r hr;obtain ⟨h1,p,cap,rfl,hc,hp⟩:=h;obtain ⟨g,rfl,V⟩:=hp h0;have:g=r:=by simpa [Value.ownBlock] using hr
 subst this;exact World.block_lt_of_cell? w ⟨g,0,none⟩ (V 0 _ (List.getElem?_eq_getElem (by omega))).1
theorem row_is {n g k:Nat} (h:(if n=0 then none else some g)=some k):0<n∧g=k:=by
 split at h
 ·cases h
 ·cases h;exact ⟨by omega,rfl⟩
theorem row_own {n k:Nat} {v:Value} (h:(if n=0 then none else v.ownBlock)=some k):0<n∧v.ownBlock=some k:=by
 split at h
 ·cases h
 ·exact ⟨by omega,h⟩
theorem grown_set {w w':World} {g o:Nat} (h:w.grownBy w' (some g)) (u:Value):w.grownBy (w'.setCell ⟨g,o,none⟩ u) (some g):=
 ⟨h.os,h.tape,h.output,by rw [World.size_setCell];exact h.size,fun k hk hne=>by rw [heap_setCell_other _ _ _ _ (fun e=>hne (congrArg some e))];exact h.block k hk hne⟩
theorem grown_ext {w w' w'':World} {r:Option Nat} (h:w.grownBy w' r) (e:Ext w' w''):w.grownBy w'' r:=
 ⟨e.os.trans h.os,e.tape.trans h.tape,e.output.trans h.output,Nat.le_trans h.size e.size,fun k hk hne=>(e.block k (Nat.lt_of_lt_of_le hk h.size)).trans (h.block k hk hne)⟩
theorem grown_refl (w:World) (r:Option Nat):w.grownBy w r:=⟨rfl,rfl,rfl,Nat.le_refl _,fun _ _ _=>rfl⟩
set_option maxRecDepth 8000 in
set_option maxHeartbeats 2000000 in
theorem markVals (v:Value) (n:Nat) (L:List Value) (k0:Nat) (w:World) (h:RowAt w v n L) (hn:n≤1048576) (k1:1≤k0) (k2:k0≤10000000) :
  Calls Tryz.prog 76 #[v,.int .i64 k0] w fun e w'=>e=.returned (.int .i64 ((k0+n * 5:Nat):Int))∧(∃ M,RowAt w' v n M∧MarkedV M k0 n)∧w.grownBy w' (if n=0 then none else v.ownBlock):=by
 obtain ⟨hL,p,cap,rfl,hcap,hp⟩:=h;have H1:Hid (L.length=n * 5):=hL;have H2:Hid (0<n→∃ g,p=some ⟨g,0,none⟩∧Vec w g L):=hp;obtain ⟨row,hrow⟩:∃ q,(if n=0 then none else (Value.slice p n cap).ownBlock)=q:=⟨_,rfl⟩;have HRow:Hid ((if n=0 then none else (Value.slice p n cap).ownBlock)=row):=hrow;rw [hrow];clear hL hp hrow;go_enter Tryz.func76,Tryz.ntmps76;go_wp2_with fail;go_loopw [1,5] (fun q i wr=>∃ k:Nat,k≤n∧i=.int .i64 k∧q=.int .i64 ((k0+k * 5:Nat):Int)∧Hid (0<n→∃ (g:Nat) (M:List Value),p=some ⟨g,0,none⟩∧M.length=n * 5∧MarkedV M k0 k∧Vec wr g M)∧Hid (w.grownBy wr row)) (fun _ i _=>n - (intOf i).toNat)
 case atStart=>exact ⟨0,by omega,rfl,rfl,fun h0=>by obtain ⟨g,hg,V⟩:=H2.out h0;exact ⟨g,L,hg,H1.out,fun i hi=>absurd hi (by omega),V⟩,grown_refl _ _⟩
 case round =>
  obtain ⟨k,hk,rfl,rfl,H,HX⟩:=hrel;by_cases hlt:k<n
  ·obtain ⟨g,M,rfl,hM,hK,V⟩:=H.out (by omega);have HK:Hid (MarkedV M k0 k):=hK;have HMl:Hid (M.length=n * 5):=hM;have hrg:some g=row:=by have:=HRow.out;rw [if_neg (by omega)] at this;exact this
   have HX':Hid (w.grownBy wr (some g)):=by show World.grownBy _ _ _;rw [hrg];exact HX.out
   have HRg:Hid (some g=row):=hrg;clear hrg HRow;clear H1 H2 H hK HX;obtain ⟨m,hm⟩:∃ m:Nat,k0+k * 5=m:=⟨_,rfl⟩;have hm':m≤20000000:=by omega
   have hmk:Hid (k0+(k+1) * 5=m+5):=by show _=_;omega
   have hmm:Hid (k0+k * 5=m):=hm;rw [hm];have v0:=V (k * 5) _ (List.getElem?_eq_getElem (by omega));have v1:=V (k * 5+1) _ (List.getElem?_eq_getElem (by omega));have v2:=V (k * 5+1+1) _ (List.getElem?_eq_getElem (by omega));have v3:=V (k * 5+1+2) _ (List.getElem?_eq_getElem (by omega));obtain ⟨a0,f0⟩:=v0;obtain ⟨a1,f1⟩:=v1;obtain ⟨a2,f2⟩:=v2;obtain ⟨a3,f3⟩:=v3;have i1:(0:Int)≤(k:Int):=by omega
   have i2:(k:Int)<(n:Int):=by omega
   have V':Hid (Vec wr g M):=V;have MT:=fun W=>markTextL (m+4) W (by omega) (by omega);rw [show ((m+4:Nat):Int)=(m:Int)+1+1+1+1 by omega] at MT;clear V hm;go_wp2_with fail;clear a0 a1 a2 a3 f0 f1 f2 f3;obtain ⟨w4,hw4⟩:∃ w4,(((wr.setCell ⟨g,k * 5,none⟩ (.int .i64 (m:Int))).setCell ⟨g,k * 5+1,none⟩ (.bool (((m:Int)+1) % 3 == 0))).setCell ⟨g,k * 5+1+1,none⟩ (.int .i64 ((m:Int)+1+1))).setCell ⟨g,k * 5+1+2,none⟩ (.int .i64 ((m:Int)+1+1+1))=w4:=⟨_,rfl⟩;have VP:Vec w4 g ((((M.set (k * 5) (.int .i64 (m:Int))).set (k * 5+1) (.bool (((m:Int)+1) % 3 == 0))).set (k * 5+1+1) (.int .i64 ((m:Int)+1+1))).set (k * 5+1+2) (.int .i64 ((m:Int)+1+1+1))):=by
    rw [← hw4];exact (((V'.out.put (k * 5) (by omega) _).put (k * 5+1) (by simp;omega) _).put (k * 5+1+1) (by simp;omega) _).put (k * 5+1+2) (by simp;omega) _
   have GP:w.grownBy w4 (some g):=by
    rw [← hw4];exact grown_set (grown_set (grown_set (grown_set HX'.out _) _) _) _
   rw [hw4];clear hw4 V' HX';refine (MT w4).mono ?_;rintro e w5 ⟨rfl,e5⟩;have VQ:=VP.later e5;have GQ:=grown_ext GP e5;have hl4:=List.getElem?_eq_getElem (l:=(((M.set (k * 5) (.int .i64 (m:Int))).set (k * 5+1) (.bool (((m:Int)+1) % 3 == 0))).set (k * 5+1+1) (.int .i64 ((m:Int)+1+1))).set (k * 5+1+2) (.int .i64 ((m:Int)+1+1+1))) (i:=k * 5+4) (by simp;omega);obtain ⟨a4,f4⟩:=VQ (k * 5+4) _ hl4;have VF:Vec (w5.setCell ⟨g,k * 5+4,none⟩ (sV (markT (m+4)))) g (put5L M (k * 5) (.int .i64 m) (.bool (((m:Int)+1) % 3 == 0)) (.int .i64 ((m:Int)+1+1)) (.int .i64 ((m:Int)+1+1+1)) (sV (markT (m+4)))):=VQ.put (k * 5+4) (by simp;omega) _;have GF:=grown_set (o:=k * 5+4) GQ (sV (markT (m+4)));obtain ⟨wf,hwf⟩:∃ wf,w5.setCell ⟨g,k * 5+4,none⟩ (sV (markT (m+4)))=wf:=⟨_,rfl⟩;rw [hwf] at VF GF;have HF:Hid (0<n→∃ (g':Nat) (M':List Value),(some ⟨g,0,none⟩:Option Addr)=some ⟨g',0,none⟩∧M'.length=n * 5∧MarkedV M' k0 (k+1)∧Vec wf g' M'):=fun _=>⟨g,_,rfl,(put5L_length _ _ _ _ _ _ _).trans HMl.out,HK.out.next HMl.out hlt m hmm.out,VF⟩;have HGF:Hid (w.grownBy wf row):=by show World.grownBy _ _ _;rw [← HRg.out];exact GF
   clear VP GP VQ GQ hl4 VF e5 MT GF;go_wp2_with fail;go_roundw
   case rel=>exact ⟨k+1,by omega,by go_num,by rw [hmk.out];go_num,HF,HGF⟩
   case measure=>simp [intOf];omega
  ·obtain rfl:k=n:=by omega
   go_wp2_with fail;go_ret;refine ⟨rfl,?_,HX.out⟩;by_cases h0:0<k
   ·obtain ⟨g,M,rfl,hM,hK,V⟩:=H.out h0;exact ⟨M,⟨hM,_,cap,rfl,hcap,fun _=>⟨g,rfl,V⟩⟩,hK⟩
   ·exact ⟨L,⟨H1.out,_,cap,rfl,hcap,fun h=>absurd h h0⟩,fun i hi=>absurd hi (by omega)⟩
set_option maxRecDepth 8000 in
set_option maxHeartbeats 2000000 in
theorem heldVals (v:Value) (n:Nat) (M:List Value) (k0:Nat) (w:World) (h:RowAt w v n M) (hM:MarkedV M k0 n) (hn:n≤1048576) (k1:1≤k0) (k2:k0≤10000000) :
  Calls Tryz.prog 77 #[v,.int .i64 k0] w fun e w'=>e=.returned (.int .i64 ((k0+n * 5:Nat):Int))∧Ext w w':=by
 obtain ⟨hL,p,cap,rfl,hcap,hp⟩:=h;have H1:Hid (MarkedV M k0 n):=hM;have H2:Hid (0<n→∃ g,p=some ⟨g,0,none⟩∧Vec w g M):=hp;clear hL hp hM;go_enter Tryz.func77,Tryz.ntmps77;go_wp2_with fail;go_loopw [1,5] (fun q i wr=>∃ k:Nat,k≤n∧i=.int .i64 k∧q=.int .i64 ((k0+k * 5:Nat):Int)∧Ext w wr) (fun _ i _=>n - (intOf i).toNat)
 case atStart=>exact ⟨0,by omega,rfl,rfl,xr _⟩
 case round =>
  obtain ⟨k,hk,rfl,rfl,X0⟩:=hrel;by_cases hlt:k<n
  ·obtain ⟨g,rfl,V0⟩:=H2.out (by omega);have V:=V0.later X0;have F:=H1.out k hlt;clear V0;obtain ⟨m,hm⟩:∃ m:Nat,k0+k * 5=m:=⟨_,rfl⟩;have hm':m≤20000000:=by omega
   have hmk:Hid (k0+(k+1) * 5=m+5):=by show _=_;omega
   rw [hm] at F ⊢;have a0:wr.cell? ⟨g,k * 5,none⟩=some (.int .i64 (m:Int)):=(V (k * 5+0) _ (F 0 (by omega))).1;have a1:wr.cell? ⟨g,k * 5+1,none⟩=some (.bool (((m:Int)+1) % 3 == 0)):=(V (k * 5+1) _ (F 1 (by omega))).1;have a2:wr.cell? ⟨g,k * 5+1+1,none⟩=some (.int .i64 ((m:Int)+1+1)):=(V (k * 5+2) _ (F 2 (by omega))).1;have a3:wr.cell? ⟨g,k * 5+1+2,none⟩=some (.int .i64 ((m:Int)+1+1+1)):=(V (k * 5+3) _ (F 3 (by omega))).1;have A4:wr.cell? ⟨g,k * 5+4,none⟩=some (sV (markT (m+4))):=(V (k * 5+4) _ (F 4 (by omega))).1;obtain ⟨tx,htx⟩:∃ tx,markT (m+4)=tx:=⟨_,rfl⟩;have MT:=fun W=>markTextL (m+4) W (by omega) (by omega);rw [show ((m+4:Nat):Int)=(m:Int)+1+1+1+1 by omega,htx] at MT;rw [htx] at A4;have i1:(0:Int)≤(k:Int):=by omega
   have i2:(k:Int)<(n:Int):=by omega
   clear F V htx hm;go_wp2_with fail;clear a0 a1 a2 a3;refine wp_region_letters (fun lx:Nat→Value=>{ tmps:=#[Value.slice (some ⟨g,0,none⟩) n cap,Value.int .i64 ((m:Int)+1+1+1+1),undef,undef,u4,Value.int .i64 (k:Int),Value.int .i64 (k:Int),Value.slice (some ⟨g,0,none⟩) n cap,Value.int .i64 (n:Int),Value.bool true,u10,u11,Value.slice (some ⟨g,0,none⟩) n cap,Value.int .i64 (k:Int),Value.pointer (some ⟨g,k * 5,none⟩),Value.pointer (some ⟨g,k * 5,none⟩),Value.int .i64 (m:Int),Value.int .i64 (m:Int),Value.bool false,Value.int .i64 (m:Int),Value.int .i64 ((m:Int)+1),Value.slice (some ⟨g,0,none⟩) n cap,Value.int .i64 (k:Int),Value.pointer (some ⟨g,k * 5,none⟩),Value.pointer (some ⟨g,k * 5+1,none⟩),Value.pointer (some ⟨g,k * 5+1,none⟩),Value.bool (((m:Int)+1) % 3 == 0),Value.int .i64 ((m:Int)+1),Value.int .i64 (((m:Int)+1) % 3),Value.bool (((m:Int)+1) % 3 == 0),Value.bool false,Value.int .i64 ((m:Int)+1),Value.int .i64 ((m:Int)+1+1),Value.slice (some ⟨g,0,none⟩) n cap,Value.int .i64 (k:Int),Value.pointer (some ⟨g,k * 5,none⟩),Value.pointer (some ⟨g,k * 5+1,none⟩),Value.pointer (some ⟨g,k * 5+1+1,none⟩),Value.int .i64 ((m:Int)+1+1),Value.int .i64 ((m:Int)+1+1),Value.bool false,Value.int .i64 ((m:Int)+1+1),Value.int .i64 ((m:Int)+1+1+1),Value.slice (some ⟨g,0,none⟩) n cap,Value.int .i64 (k:Int),Value.pointer (some ⟨g,k * 5,none⟩),Value.pointer (some ⟨g,k * 5+1,none⟩),Value.pointer (some ⟨g,k * 5+1+2,none⟩),Value.int .i64 ((m:Int)+1+1+1),Value.int .i64 ((m:Int)+1+1+1),Value.bool false,Value.int .i64 ((m:Int)+1+1+1),Value.int .i64 ((m:Int)+1+1+1+1),lx 53,lx 54,lx 55,lx 56,lx 57,lx 58,lx 59,lx 60,u61,u62,undef],defers:=[] }) (fun L lx lw=>Hid (Ext wr lw∧(L 0=true→lx 53=Value.slice (some ⟨g,0,none⟩) n cap)∧(L 1=true→lx 54=Value.int .i64 (k:Int))∧(L 2=true→lx 55=Value.pointer (some ⟨g,k * 5,none⟩))∧(L 3=true→lx 56=Value.pointer (some ⟨g,k * 5+4,none⟩))∧(L 4=true→lx 57=sV tx)∧(L 5=true→lx 58=Value.int .i64 ((m:Int)+1+1+1+1))∧(L 6=true→lx 59=sV tx)∧(L 7=true→lx 60=.bool false))) rfl (by kernel_rfl) (fun jj=>if jj=53 then u53 else if jj=54 then u54 else if jj=55 then u55 else if jj=56 then u56 else if jj=57 then u57 else if jj=58 then u58 else if jj=59 then u59 else if jj=60 then u60 else undef) rfl ?_ ?_ ?_
   ·exact ⟨xd (xr wr),(fun h=>by cases h),(fun h=>by cases h),(fun h=>by cases h),(fun h=>by cases h),(fun h=>by cases h),(fun h=>by cases h),(fun h=>by cases h),(fun h=>by cases h)⟩
   ·intro L lx wl i o K hK ho hL haf hI;obtain ⟨X,f0,f1,f2,f3,f4,f5,f6,f7⟩:=hI.out
    match i,ho,hL,haf,hK with
    | 0,ho,hL,haf,hK =>
     cases ho
     (try dsimp only)
     go_wp2_with fail;exact hK (fun jj=>if jj=53 then Value.slice (some ⟨g,0,none⟩) n cap else lx jj) _ ⟨X,(fun _=>rfl),f1,f2,f3,f4,f5,f6,f7⟩
    | 1,ho,hL,haf,hK =>
     cases ho
     (try dsimp only)
     go_wp2_with fail;exact hK (fun jj=>if jj=54 then Value.int .i64 (k:Int) else lx jj) _ ⟨X,f0,(fun _=>rfl),f2,f3,f4,f5,f6,f7⟩
    | 2,ho,hL,haf,hK =>
     cases ho
     (try dsimp only)
     rw [f0 (haf ⟨0,.data⟩ (by simp) rfl),f1 (haf ⟨1,.data⟩ (by simp) rfl)];go_wp2_with fail;exact hK (fun jj=>if jj=55 then Value.pointer (some ⟨g,k * 5,none⟩) else if jj=53 then Value.slice (some ⟨g,0,none⟩) n cap else if jj=54 then Value.int .i64 (k:Int) else lx jj) _ ⟨X,(fun _=>rfl),(fun _=>rfl),(fun _=>rfl),f3,f4,f5,f6,f7⟩
    | 3,ho,hL,haf,hK =>
     cases ho
     (try dsimp only)
     rw [f2 (haf ⟨2,.data⟩ (by simp) rfl)];go_wp2_with fail;exact hK (fun jj=>if jj=56 then Value.pointer (some ⟨g,k * 5+4,none⟩) else if jj=55 then Value.pointer (some ⟨g,k * 5,none⟩) else lx jj) _ ⟨X,f0,f1,(fun _=>rfl),(fun _=>rfl),f4,f5,f6,f7⟩
    | 4,ho,hL,haf,hK =>
     cases ho
     (try dsimp only)
     rw [f3 (haf ⟨3,.data⟩ (by simp) rfl)];have a4:=cell_later X A4;go_wp2_with fail;exact hK (fun jj=>if jj=57 then sV tx else if jj=56 then Value.pointer (some ⟨g,k * 5+4,none⟩) else lx jj) _ ⟨X,f0,f1,f2,(fun _=>rfl),(fun _=>rfl),f5,f6,f7⟩
    | 5,ho,hL,haf,hK =>
     cases ho
     (try dsimp only)
     go_wp2_with fail;exact hK (fun jj=>if jj=58 then Value.int .i64 ((m:Int)+1+1+1+1) else lx jj) _ ⟨X,f0,f1,f2,f3,f4,(fun _=>rfl),f6,f7⟩
    | 6,ho,hL,haf,hK =>
     cases ho
     (try dsimp only)
     rw [f5 (haf ⟨5,.data⟩ (by simp) rfl)];go_wp2_with fail;refine (MT wl).mono ?_;rintro rr w' ⟨rfl,E⟩;go_wp2_with fail;exact hK (fun jj=>if jj=59 then sV tx else if jj=58 then Value.int .i64 ((m:Int)+1+1+1+1) else lx jj) _ ⟨xt X E,f0,f1,f2,f3,f4,(fun _=>rfl),(fun _=>rfl),f7⟩
    | 7,ho,hL,haf,hK =>
     cases ho
     (try dsimp only)
     rw [f4 (haf ⟨4,.data⟩ (by simp) rfl),f6 (haf ⟨6,.data⟩ (by simp) rfl)];go_wp2_with fail;exact hK (fun jj=>if jj=60 then .bool false else if jj=57 then sV tx else if jj=59 then sV tx else lx jj) _ ⟨X,f0,f1,f2,f3,(fun _=>rfl),f5,(fun _=>rfl),(fun _=>rfl)⟩
    | k+8,ho,_,_,_=>simp at ho
   ·intro L lx w5 hall hI;obtain ⟨XR,f0,f1,f2,f3,f4,f5,f6,f7⟩:=hI.out;clear hI;replace f0:=f0 (hall 0 (by simp));replace f1:=f1 (hall 1 (by simp));replace f2:=f2 (hall 2 (by simp));replace f3:=f3 (hall 3 (by simp));replace f4:=f4 (hall 4 (by simp));replace f5:=f5 (hall 5 (by simp));replace f6:=f6 (hall 6 (by simp));replace f7:=f7 (hall 7 (by simp))
    (try dsimp only)
    rw [f0,f1,f2,f3,f4,f5,f6,f7];clear hall f0 f1 f2 f3 f4 f5 f6 f7;have X1:=xt X0 XR;clear A4 MT XR;go_wp2_with fail;go_roundw
    case rel=>exact ⟨k+1,by omega,by go_num,by rw [hmk.out];go_num,X1⟩
    case measure=>simp [intOf];omega
  ·obtain rfl:k=n:=by omega
   go_wp2_with fail;go_ret;exact ⟨rfl,X0⟩
theorem ext_grown {a b c:World} {r:Option Nat} (e:Ext a b) (h:b.grownBy c r):a.grownBy c r:=
 ⟨h.os.trans e.os,h.tape.trans e.tape,h.output.trans e.output,Nat.le_trans e.size h.size,fun k hk hne=>(h.block k (Nat.lt_of_lt_of_le hk e.size) hne).trans (e.block k hk)⟩
set_option maxRecDepth 8000 in
set_option maxHeartbeats 2000000 in
theorem markGridL (r c:Int) (v:Value) (n:Nat) (L:List Value) (k0:Nat) (w:World) (h:RowAt w v n L) (hn:n≤1048576) (k1:1≤k0) (k2:k0≤10000000) :
  Calls Tryz.prog 26 #[grV r c v,.int .i64 k0] w fun e w'=>e=.returned (.int .i64 ((k0+n * 5:Nat):Int))∧(∃ M,RowAt w' v n M∧MarkedV M k0 n)∧w.grownBy w' (if n=0 then none else v.ownBlock):=by
 have X:=x1 w (.cells #[.int .i64 r,.int .i64 c,v] 35);have C:=markVals v n L k0 _ (h.later X) hn k1 k2;obtain ⟨m,hm⟩:∃ m:Nat,k0+n * 5=m:=⟨_,rfl⟩;obtain ⟨row,hrow⟩:∃ q,(if n=0 then none else v.ownBlock)=q:=⟨_,rfl⟩;rw [hm,hrow] at C;rw [hm,hrow];clear h hm hrow;go_enter Tryz.func26,Tryz.ntmps26;go_wp2_with fail;refine C.mono ?_;rintro e w1 ⟨rfl,hM,g1⟩;have HM:Hid (∃ M,RowAt w1 v n M∧MarkedV M k0 n):=hM;clear hM C;go_wp2_with fail;go_ret;exact ⟨rfl,HM.out,ext_grown X g1⟩
set_option maxRecDepth 8000 in
set_option maxHeartbeats 2000000 in
theorem heldGridL (r c:Int) (v:Value) (n:Nat) (M:List Value) (k0:Nat) (w:World) (h:RowAt w v n M) (hM:MarkedV M k0 n) (hn:n≤1048576) (k1:1≤k0) (k2:k0≤10000000) :
  Calls Tryz.prog 27 #[grV r c v,.int .i64 k0] w fun e w'=>e=.returned (.int .i64 ((k0+n * 5:Nat):Int))∧Ext w w':=by
 have X:=x1 w (.cells #[.int .i64 r,.int .i64 c,v] 35);have C:=heldVals v n M k0 _ (h.later X) hM hn k1 k2;obtain ⟨m,hm⟩:∃ m:Nat,k0+n * 5=m:=⟨_,rfl⟩;rw [hm] at C ⊢;have hm0:decide ((m:Int)<0)=false:=by simp
 clear h hm hM;go_enter Tryz.func27,Tryz.ntmps27;go_wp2_with fail;refine C.mono ?_;rintro e w1 ⟨rfl,e1⟩;clear C;go_wp2_with fail;go_ret;exact ⟨rfl,xt X e1⟩
end Go.Proofs.YtkadkfmidlhedaaGreatDoor

