/-
  AsN, WTwo, AsI in one.
-/
import Derived.Test.YtjlojlgdkfpcdaaGreatDoorMg11
import Derived.Test.YtjlojlgdkfpcdaaGreatDoorMg6
import Derived.Test.YtjlojlgdkfpcdaaGreatDoorMg14
import Derived.Test.YtjlojlgdkfpcdaaGreatDoorWideE
import Derived.Test.YtjlojlgdkfpcdaaGreatDoorMg16
import Derived.Test.YtjlojlgdkfpcdaaGreatDoorMg9
set_option maxRecDepth 8000
set_option maxHeartbeats 8000000
namespace Go.Proofs.YtjlojlgdkfpcdaaGreatDoor
open Go.RowKit
def sumI (na:Bool) (da ea:Int) (nb:Bool) (db eb:Int):Int:=sgn na da * 10 ^ (ea - min ea eb).toNat+sgn nb db * 10 ^ (eb - min ea eb).toNat
def sumZ (na:Bool) (da ea:Int) (nb:Bool) (db eb:Int):DR:=putR (decide (sumI na da ea nb db eb<0)) (sumI na da ea nb db eb).natAbs (min ea eb) false
theorem zN5 (na:Bool) (da ea:Int) (nb:Bool) (db eb:Int):sumZ na da ea nb db eb=sumZ nb db eb na da ea:=by
 unfold sumZ sumI;rw [Int.min_comm eb ea,Int.add_comm]
theorem zLZ {na nb:Bool} {A B m:Nat} {ea eb:Int} (h:ea=eb+m):sumI na A ea nb B eb=sgn na ((A * 10 ^ m:Nat):Int)+sgn nb B/\min ea eb=eb:=by
 have e1:min ea eb=eb:=by omega
 refine ⟨?_,e1⟩;unfold sumI;have e2:(ea - min ea eb).toNat=m:=by omega
 have e3:(eb - min ea eb).toNat=0:=by omega
 rw [e2,e3];have e4:((A * 10 ^ m:Nat):Int)=(A:Int) * 10 ^ m:=by rw [Int.natCast_mul,Int.natCast_pow];rfl
 rw [e4];cases na <;> simp [sgn,Int.neg_mul]
theorem zCW {s t:Bool} {P:Nat} {e:Int} {m:Bool} (h:P ≠ 0->s=t):putR s P e m=putR t P e m:=by
 by_cases h0:P=0
 ·subst h0;unfold putR fitR;simp [zDZ]
 ·rw [h h0]
theorem zN3 {n:Bool} {A B m:Nat} {ea eb:Int} (h:ea=eb+m):sumZ n A ea n B eb=putR n (A * 10 ^ m+B) eb false:=by
 obtain ⟨e1,e2⟩:=zLZ (na:=n) (nb:=n) (A:=A) (B:=B) h;unfold sumZ;rw [e1,e2];generalize A * 10 ^ m=X;cases n
 ·have e3:(sgn false (X:Int)+sgn false (B:Int)).natAbs=X+B:=by simp [sgn];omega
  rw [e3];exact zCW (fun _=>by simp [sgn];omega)
 ·have e3:(sgn true (X:Int)+sgn true (B:Int)).natAbs=X+B:=by simp [sgn];omega
  rw [e3];exact zCW (fun _=>by simp [sgn];omega)
theorem zN4 {na nb:Bool} {A B m:Nat} {ea eb:Int} (h:ea=eb+m) (hn:na ≠ nb) (hge:B<=A * 10 ^ m):sumZ na A ea nb B eb=putR na (A * 10 ^ m - B) eb false:=by
 obtain ⟨e1,e2⟩:=zLZ (na:=na) (nb:=nb) (A:=A) (B:=B) h;unfold sumZ;rw [e1,e2];generalize A * 10 ^ m=X at *;cases na <;> cases nb
 ·exact absurd rfl hn
 ·have e3:(sgn false (X:Int)+sgn true (B:Int)).natAbs=X - B:=by simp [sgn];omega
  rw [e3];exact zCW (fun _=>by simp [sgn];omega)
 ·have e3:(sgn true (X:Int)+sgn false (B:Int)).natAbs=X - B:=by simp [sgn];omega
  rw [e3];exact zCW (fun _=>by simp [sgn];omega)
 ·exact absurd rfl hn
theorem zUC {na nb:Bool} {A B m:Nat} {ea eb:Int} (h:ea=eb+m) (hn:na ≠ nb) (hlt:A * 10 ^ m<B):sumZ na A ea nb B eb=putR nb (B - A * 10 ^ m) eb false:=by
 obtain ⟨e1,e2⟩:=zLZ (na:=na) (nb:=nb) (A:=A) (B:=B) h;unfold sumZ;rw [e1,e2];generalize A * 10 ^ m=X at *;cases na <;> cases nb
 ·exact absurd rfl hn
 ·have e3:(sgn false (X:Int)+sgn true (B:Int)).natAbs=B - X:=by simp [sgn];omega
  rw [e3];exact zCW (fun _=>by simp [sgn];omega)
 ·have e3:(sgn true (X:Int)+sgn false (B:Int)).natAbs=B - X:=by simp [sgn];omega
  rw [e3];exact zCW (fun _=>by simp [sgn];omega)
 ·exact absurd rfl hn
theorem sum_far {na nb:Bool} {A B m:Nat} {ea eb:Int} (h:ea=eb+m) (hA:A % 10 ≠ 0) (hA1:A<1000000000000000) (hB:0<B) (hB1:B<1000000000000000) (hm:38<nd A+m) (e0 : -300<=ea) (e1:ea<=300):sumZ na A ea nb B eb=⟨true,na,A,ea⟩:=by
 have hbig:B<=A * 10 ^ m:=by
  have h1:=zSI A m (by omega);have h2:=zSJ (a:=A * 10 ^ m) (k:=38) (by omega);have:=zML;omega
 by_cases hn:na=nb
 ·subst hn;rw [zN3 h];have:=zRP na false A B m eb hA hA1 hB hB1 hm (by omega) (by omega);rw [h];exact this
 ·rw [zN4 h hn hbig];have:=zRP na true A B m eb hA hA1 hB hB1 hm (by omega) (by omega);rw [h];exact this
theorem zN2 {na nb:Bool} {d e:Int} (d0:0<=d) (d1:d<1000000000000000) (hg:d=0->e=0/\nb=false) (hd:d ≠ 0->d % 10 ≠ 0 /\ -300<=e/\e<=300):sumZ na 0 e nb d e=⟨true,nb,d,e⟩:=by
 obtain ⟨D,rfl⟩:=Int.eq_ofNat_of_zero_le d0;have e1:sumI na 0 e nb (D:Int) e=sgn nb (D:Int):=by
  unfold sumI;have:(e - min e e).toNat=0:=by omega
  rw [this];cases na <;> simp [sgn]
 have e2:min e e=e:=by omega
 unfold sumZ;rw [e1,e2];have e3:(sgn nb (D:Int)).natAbs=D:=by cases nb <;> simp [sgn]
 rw [e3];by_cases h0:D=0
 ·subst h0;obtain ⟨rfl,rfl⟩:=hg rfl;unfold putR fitR;simp [zDZ]
 ·obtain ⟨g1,g2,g3⟩:=hd (by omega);rw [zCW (t:=nb) (fun _=>by cases nb <;> simp [sgn] <;> omega)];exact zUP nb D e (by omega) (by omega) g2 g3
def WIn (w:World) (b:Nat) (P:Nat):Prop:=∃ h l:Nat,Box2 w b (.int .u64 h) (.int .u64 l)/\WV (.agg #[.int .u64 h,.int .u64 l]) P
abbrev set2 (w:World) (b:Nat) (u0 u1:Value):World:=(w.setCell ⟨b,0,none⟩ u0).setCell ⟨b,1,none⟩ u1
theorem Box2.far2 {w:World} {b k:Nat} {v0 v1:Value} (h:Box2 w b v0 v1) (hk:k ≠ b) (u0 u1:Value):Box2 (set2 w k u0 u1) b v0 v1:=(h.far (p:=⟨k,0,none⟩) hk u0).far (p:=⟨k,1,none⟩) hk u1
theorem Box2.lt {w:World} {b:Nat} {v0 v1:Value} (h:Box2 w b v0 v1):b<w.heap.size:=World.block_lt_of_cell? _ _ h.1.1
theorem zK6 {w w1:World} {b:Nat} (h:Ext w w1) (hb:w.heap.size<=b) (c0 c1:Value):Ext w (set2 w1 b c0 c1):=xset (xset h hb _) hb _
def WTwo (w0 w:World) (b c:Nat) (P Q:Nat):Prop:=w0.heap.size<=b/\w0.heap.size<=c/\b ≠ c/\WIn w b P/\WIn w c Q/\Ext w0 w
section
variable {w0 w:World} {P Q:Nat} {q0 q1 r0 r1:Nat} {t:TypeId}
theorem wtwo1 (X:Ext w0 w) (hq:WV (.agg #[.int .u64 q0,.int .u64 q1]) P) (hr:WV (.agg #[.int .u64 r0,.int .u64 r1]) Q) :
  WTwo w0 ((w.alloc (.cells #[.int .u64 q0,.int .u64 q1] t)).alloc (.cells #[.int .u64 r0,.int .u64 r1] t)) w.heap.size (w.heap.size+1) P Q:=by
 have h1:=Box2.made (w.alloc (.cells #[.int .u64 q0,.int .u64 q1] t)) (.int .u64 r0) (.int .u64 r1) t;simp only [World.size_alloc] at h1;exact ⟨X.size,Nat.le_succ_of_le X.size,by omega,⟨q0,q1,(Box2.made w _ _ t).l (x1 _ _),hq⟩,⟨r0,r1,h1,hr⟩,xa (xa X _) _⟩
theorem wtwo2 (X:Ext w0 w) (hq:WV (.agg #[.int .u64 q0,.int .u64 q1]) P) (hr:WV (.agg #[.int .u64 r0,.int .u64 r1]) Q) :
  WTwo w0 ((w.alloc (.cells #[.int .u64 r0,.int .u64 r1] t)).alloc (.cells #[.int .u64 q0,.int .u64 q1] t)) (w.heap.size+1) w.heap.size P Q:=by
 have h1:=Box2.made (w.alloc (.cells #[.int .u64 r0,.int .u64 r1] t)) (.int .u64 q0) (.int .u64 q1) t;simp only [World.size_alloc] at h1;exact ⟨Nat.le_succ_of_le X.size,X.size,by omega,⟨q0,q1,h1,hq⟩,⟨r0,r1,(Box2.made w _ _ t).l (x1 _ _),hr⟩,xa (xa X _) _⟩
theorem zG2 (X:Ext w0 w) (hq:WV (.agg #[.int .u64 q0,.int .u64 q1]) P) (hr:WV (.agg #[.int .u64 r0,.int .u64 r1]) Q) {b c:Nat} (hb:Box2 w b (.int .u64 0) (.int .u64 0)) (hc:Box2 w c (.int .u64 0) (.int .u64 0)) (b0:w0.heap.size<=b) (c0:w0.heap.size<=c) (hne:b ≠ c) :
  WTwo w0 (set2 (set2 w b (.int .u64 q0) (.int .u64 q1)) c (.int .u64 r0) (.int .u64 r1)) b c P Q:=
 ⟨b0,c0,hne,⟨q0,q1,(hb.put _ _).far2 hne.symm _ _,hq⟩,⟨r0,r1,(hc.far2 hne _ _).put _ _,hr⟩,zK6 (zK6 X b0 _ _) c0 _ _⟩
theorem wtwo3 (X:Ext w0 w) (hq:WV (.agg #[.int .u64 q0,.int .u64 q1]) P) (hr:WV (.agg #[.int .u64 r0,.int .u64 r1]) Q) {b:Nat} (hb:Box2 w b (.int .u64 0) (.int .u64 0)) (b0:w0.heap.size<=b) :
  WTwo w0 (set2 (set2 (w.alloc (.cells #[.int .u64 0,.int .u64 0] t)) b (.int .u64 q0) (.int .u64 q1)) w.heap.size (.int .u64 r0) (.int .u64 r1)) b w.heap.size P Q:=
 zG2 (xa X _) hq hr (hb.l (x1 _ _)) (Box2.made w _ _ t) b0 X.size (Nat.ne_of_lt hb.lt)
theorem wtwo4 (X:Ext w0 w) (hq:WV (.agg #[.int .u64 q0,.int .u64 q1]) P) (hr:WV (.agg #[.int .u64 r0,.int .u64 r1]) Q) {b:Nat} (hb:Box2 w b (.int .u64 0) (.int .u64 0)) (b0:w0.heap.size<=b) :
  WTwo w0 (set2 (w.alloc (.cells #[.int .u64 q0,.int .u64 q1] t)) b (.int .u64 r0) (.int .u64 r1)) w.heap.size b P Q:=
 ⟨X.size,b0,(Nat.ne_of_lt hb.lt).symm,⟨q0,q1,(Box2.made w _ _ t).far2 (Nat.ne_of_lt hb.lt) _ _,hq⟩,⟨r0,r1,(hb.l (x1 _ _)).put _ _,hr⟩,zK6 (xa X _) b0 _ _⟩
end
def sumE (na:Bool) (da ea:Int) (nb:Bool) (db eb:Int):DR:=sumZ na da (if da=0 then eb else ea) nb db (if db=0 then (if da=0 then eb else ea) else eb)
def addR (na:Bool) (da ea:Int) (nb:Bool) (db eb:Int):DR:=if (zA1 na da ea && zA1 nb db eb)=true then sumE na da ea nb db eb else badR
theorem zAN {n:Bool} {d e:Int} (h:zA1 n d e=true):0<=d/\d<1000000000000000 /\ -300<=e/\e<=300/\(d=0->e=0/\n=false)/\(d ≠ 0->d % 10 ≠ 0):=by
 unfold zA1 at h
 split at h
 ·rename_i h0;simp at h;exact ⟨by omega,by omega,by omega,by omega,fun _=>⟨h.2,h.1⟩,fun hd=>absurd h0 hd⟩
 ·simp at h;exact ⟨by omega,by omega,by omega,by omega,fun hd=>absurd hd (by omega),fun _=>by omega⟩
theorem wide128 {P:Nat} {a m:Nat} (ha:a<1000000000000000) (hm:nd a+m<=38) (hP:P=a * 10 ^ m):P<100000000000000000000000000000000000000:=by
 by_cases h0:a=0
 ·subst h0;rw [hP];simp
 ·have h1:=zSI a m h0;have h2:=(zE5 (a * 10 ^ m)).1;have h3:=zB3 (show nd (a * 10 ^ m)<=38 by omega);have:=zML;omega
def SumIn (n1:Bool) (A1:Nat) (e1:Int) (n2:Bool) (A2:Nat) (e2:Int) (R:DR):Prop:=
 0<A1/\A1<1000000000000000/\A1 % 10 ≠ 0/\0<A2/\A2<1000000000000000 /\ -300<=e2/\e2<=e1/\e1<=300/\sumZ n1 A1 e1 n2 A2 e2=R
theorem zP8 (na nb:Bool) (A B:Nat) (ea eb:Int) (w:World) (hA:0<A) (hA1:A<1000000000000000) (hA2:A % 10 ≠ 0) (hB:0<B) (hB1:B<1000000000000000) (hB2:B % 10 ≠ 0) (a0 : -300<=ea) (a1:ea<=300) (b0 : -300<=eb) (b1:eb<=300) (hT:Tens w) :
  Calls Tryz.prog 231 #[.agg #[.bool na,iQ A,iQ ea],.agg #[.bool nb,iQ B,iQ eb]] w fun r w'=>r=.returned (resV (sumZ na A ea nb B eb))/\Ext w w':=by
 obtain ⟨R,hR⟩:=nm (sumZ na A ea nb B eb);rw [hR];have HR:Hid (sumZ na A ea nb B eb=R):=hR;have X0:=xa (xa (x1 w (.cells #[.bool na,iQ A,iQ ea] 31)) (.cells #[.bool nb,iQ B,iQ eb] 31)) (.cells #[.bool false,.bool false,iQ 0,iQ 0] 99);have Ba:=(Box3.made w (.bool na) (iQ A) (iQ ea) 31).l (xa (x1 _ (.cells #[.bool nb,iQ B,iQ eb] 31)) (.cells #[.bool false,.bool false,iQ 0,iQ 0] 99));have Bb:=(Box3.made (w.alloc (.cells #[.bool na,iQ A,iQ ea] 31)) (.bool nb) (iQ B) (iQ eb) 31).l (x1 _ (.cells #[.bool false,.bool false,iQ 0,iQ 0] 99));have Br:=Box4.made ((w.alloc (.cells #[.bool na,iQ A,iQ ea] 31)).alloc (.cells #[.bool nb,iQ B,iQ eb] 31)) (.bool false) (.bool false) (iQ 0) (iQ 0) 99;simp only [World.size_alloc] at Bb Br;obtain ⟨w0,hw0⟩:=nm (((w.alloc (.cells #[.bool na,iQ A,iQ ea] 31)).alloc (.cells #[.bool nb,iQ B,iQ eb] 31)).alloc (.cells #[.bool false,.bool false,iQ 0,iQ 0] 99));rw [hw0] at X0 Ba Bb Br;clear hR;go_enter Tryz.func231,Tryz.ntmps231;go_upto_region 1 with fail;clear hw0;have Ba':=Ba;have Bb':=Bb;obtain ⟨⟨p0,p1,p2⟩,f0,f1,f2⟩:=Ba';obtain ⟨⟨p3,p4,p5⟩,f3,f4,f5⟩:=Bb';go_cut [12] (fun v wc=>v=.bool (decide (ea<eb))/\wc=w0)
 case first =>
  go_wp2_with fail;go_meet
  case rel=>exact ⟨rfl,rfl⟩
 case rest =>
  obtain ⟨rfl,hwc⟩:=hcut;rw [hwc];clear hwc;go_upto_if 12 with fail;go_cut [] (fun wc=>∃ (n1 n2:Bool) (A1 A2:Nat) (e1 e2:Int),Hid (SumIn n1 A1 e1 n2 A2 e2 R)/\Box3 wc w.heap.size (.bool n1) (iQ A1) (iQ e1)/\Box3 wc (w.heap.size+1) (.bool n2) (iQ A2) (iQ e2)/\Box4 wc (w.heap.size+1+1) (.bool false) (.bool false) (iQ 0) (iQ 0)/\Ext w wc)
  case first =>
   by_cases hlt:ea<eb
   ·have hd:decide (ea<eb)=true:=decide_eq_true hlt;rw [hd];have N1:=Ba.put (.bool nb) (iQ B) (iQ eb);have N2:=(Bb.far3 (k:=w.heap.size) (by omega) (.bool nb) (iQ B) (iQ eb)).put (.bool na) (iQ A) (iQ ea);have N1':=N1.far3 (k:=w.heap.size+1) (by omega) (.bool na) (iQ A) (iQ ea);have N4:Box4 (set3 (set3 w0 w.heap.size (.bool nb) (iQ B) (iQ eb)) (w.heap.size+1) (.bool na) (iQ A) (iQ ea)) (w.heap.size+1+1) (.bool false) (.bool false) (iQ 0) (iQ 0):=
     ((((((Br.far (p:=⟨w.heap.size,0,none⟩) (by simp only;omega) _).far (p:=⟨w.heap.size,1,none⟩) (by simp only;omega) _).far (p:=⟨w.heap.size,2,none⟩) (by simp only;omega) _).far (p:=⟨w.heap.size+1,0,none⟩) (by simp only;omega) _).far (p:=⟨w.heap.size+1,1,none⟩) (by simp only;omega) _).far (p:=⟨w.heap.size+1,2,none⟩) (by simp only;omega) _)
    have XN:=Ext.set3 (Ext.set3 X0 (b:=w.heap.size) (Nat.le_refl _) (.bool nb) (iQ B) (iQ eb)) (b:=w.heap.size+1) (Nat.le_succ _) (.bool na) (iQ A) (iQ ea);have HS:Hid (SumIn nb B eb na A ea R):=⟨hB,hB1,hB2,hA,hA1,a0,by omega,b1,by rw [zN5];exact HR.out⟩;go_wp2_with fail;go_meet
    case rel=>exact ⟨nb,na,B,A,eb,ea,HS.out,N1',N2,N4,XN⟩
   ·have hd:decide (ea<eb)=false:=decide_eq_false hlt;rw [hd];have HS:Hid (SumIn na A ea nb B eb R):=⟨hA,hA1,hA2,hB,hB1,b0,by omega,a1,HR.out⟩;go_wp2_with fail;go_meet
    case rel=>exact ⟨na,nb,A,B,ea,eb,HS.out,Ba,Bb,Br,X0⟩
  case rest =>
   obtain ⟨n1,n2,A1,A2,e1,e2,HS,C1,C2,Cr,XV⟩:=hcut
   rename World=>wv
   clear p0 p1 p2 f0 f1 f2 p3 p4 p5 f3 f4 f5 Ba Bb Br X0 hA hA1 hA2 hB hB1 hB2 a0 a1 b0 b1 HR;have TV:=hT.l XV;obtain ⟨hA,hA1,hA2,hB,hB1,b0,h21,a1,hS⟩:=HS.out;obtain ⟨m,hm⟩:∃ m:Nat,e1 - e2=(m:Int):=⟨(e1 - e2).toNat,by omega⟩;have he1:e1=e2+m:=by omega
   have mb:m<=600:=by omega
   have FAR:Hid (38<nd A1+m->R=⟨true,n1,A1,e1⟩):=fun h=>by rw [<- hS];exact sum_far he1 hA2 hA1 hB hB1 h (by omega) (by omega)
   have SAME:Hid (n1=n2->R=putR n1 (A1 * 10 ^ m+A2) e2 false):=fun h=>by subst h;rw [<- hS];exact zN3 he1
   have MORE:Hid (n1 ≠ n2->A2<=A1 * 10 ^ m->R=putR n1 (A1 * 10 ^ m - A2) e2 false):=fun h h2=>by rw [<- hS];exact zN4 he1 h h2
   have LESS:Hid (n1 ≠ n2->A1 * 10 ^ m<A2->R=putR n2 (A2 - A1 * 10 ^ m) e2 false):=fun h h2=>by rw [<- hS];exact zUC he1 h h2
   have SZ1:Hid (∀ w2,Calls Tryz.prog 136 #[.agg #[.bool n1,iQ A1,iQ e1]] w2 fun e w'=>∃ v,e=.returned v/\WV v A1/\Ext w2 w'):=fun w2=>zG5 n1 A1 e1 w2 hA1;have SZ2:Hid (∀ w2,Calls Tryz.prog 136 #[.agg #[.bool n2,iQ A2,iQ e2]] w2 fun e w'=>∃ h l:Nat,e=.returned (.agg #[.int .u64 h,.int .u64 l])/\WV (.agg #[.int .u64 h,.int .u64 l]) A2/\Ext w2 w'):=fun w2=>by
    refine (zG5 n2 A2 e2 w2 hB1).mono ?_;rintro e w' ⟨v,rfl,hv,hx⟩;have hv':=hv;obtain ⟨h,l,rfl,_⟩:=hv';exact ⟨h,l,rfl,hv,hx⟩
   have LN:Hid (∀ w2 v,WV v A1->Tens w2->Calls Tryz.prog 187 #[v] w2 fun e w'=>e=.returned (iQ (nd A1))/\Ext w2 w'):=fun w2 v hv hT=>by
    refine (zIY w2 hv hT).mono ?_;rintro e w' ⟨k,rfl,hk,_,hx⟩;rw [hk.nd];exact ⟨rfl,hx⟩
   have n15:nd A1<=15:=zIC (by omega);have C1':=C1;have C2':=C2;obtain ⟨⟨p0,p1,p2⟩,_⟩:=C1';obtain ⟨⟨p3,p4,p5⟩,_⟩:=C2';clear hS HS he1;go_wp2_with fail;refine (SZ1.out _).mono ?_;rintro rr w1 ⟨v1,rfl,hW1,x1'⟩;go_wp2_with fail;refine (LN.out _ _ hW1 (TV.l x1')).mono ?_;rintro rr w2 ⟨rfl,x2'⟩;have X2:=xt x1' x2';replace C1:=C1.l X2;replace C2:=C2.l X2;replace Cr:=Cr.l X2;replace XV:=xt XV X2;replace TV:=TV.l X2;clear p0 p1 p2 p3 p4 p5 X2 x1' x2' hW1 LN;have C1':=C1;have C2':=C2;obtain ⟨⟨p0,p1,p2⟩,_⟩:=C1';obtain ⟨⟨p3,p4,p5⟩,_⟩:=C2';by_cases hf:38<nd A1+m
   ·obtain rfl:=FAR.out hf;have hf':(38:Int) - (nd A1:Int)<(m:Int):=(by omega);obtain ⟨⟨m0,m1,m2,m3⟩,k0,k1,k2,k3⟩:=Cr;clear hf FAR SAME MORE LESS SZ1 SZ2 p3 p4 p5;go_wp2_with fail;exact bodyPost_ret (v:=.agg #[.bool true,.bool n1,iQ A1,iQ e1]) (by simp [results,Tryz.results231,go_sem,m0,m1,m2,m3]) rfl ⟨rfl,xset (xset (xset (xset XV (by simp only;omega) _) (by simp only;omega) _) (by simp only;omega) _) (by simp only;omega) _⟩
   ·have hf':(m:Int)<=(38:Int) - (nd A1:Int):=(by omega);obtain ⟨X,hX⟩:∃ X:Nat,A1 * 10 ^ m=X:=⟨_,rfl⟩;have XB:=wide128 hA1 (show nd A1+m<=38 by omega) hX.symm;rw [hX] at SAME MORE LESS;have RA1:Hid (∀ w2 v,WV v A1->Tens w2->Calls Tryz.prog 243 #[v,iQ m] w2 fun e w'=>∃ h l:Nat,e=.returned (.agg #[.int .u64 h,.int .u64 l])/\WV (.agg #[.int .u64 h,.int .u64 l]) X/\Ext w2 w'):=fun w2 v hv hT=>by
     refine (zP7 m (by omega) w2 hv hT (by rw [hX];omega)).mono ?_;rintro e w' ⟨v',rfl,hv',hx⟩;rw [hX] at hv';have hv'':=hv';obtain ⟨h,l,rfl,_⟩:=hv'';exact ⟨h,l,rfl,hv',hx⟩
    rename World=>wv
    clear hf FAR hX;go_upto_region 6 with fail;go_cut [6,7] (fun v x wc=>∃ bq br,v=.pointer (some ⟨bq,0,none⟩)/\x=.pointer (some ⟨br,0,none⟩)/\WTwo wv wc bq br X A2)
    case first =>
     have neb0:=World.new_ne wv _ p0;have neb1:=World.new_ne wv _ p3;have neb2:wv.heap.size+1 ≠ w.heap.size:=(by have:=World.block_lt_of_cell? _ _ p0;simp only at this;omega);have neb3:wv.heap.size+1 ≠ w.heap.size+1:=(by have:=World.block_lt_of_cell? _ _ p3;simp only at this;omega);go_region_held3 (fun w'=>(w'.cell? ⟨w.heap.size,0,none⟩=some (.bool n1)/\w'.cell? ⟨w.heap.size,1,none⟩=some (iQ A1)/\w'.cell? ⟨w.heap.size,2,none⟩=some (iQ e1))/\w'.cell? ⟨w.heap.size+1,0,none⟩=some (.bool n2)/\w'.cell? ⟨w.heap.size+1,1,none⟩=some (iQ A2)/\w'.cell? ⟨w.heap.size+1,2,none⟩=some (iQ e2)) (go_keep) (first
      | (go_at_call_of 136 (Value.agg #[.bool n1,iQ A1,iQ e1]);refine (SZ1.out _).mono ?_;rintro rr ws ⟨vs,rfl,hWs,es⟩;have Xs:Ext wv ws:=xt (by first | exact xd (xr _) | exact xd (xa (xr _) _) | exact xd (xa (xa (xr _) _) _)) es;obtain ⟨⟨xs0,xs1,xs2⟩,_⟩:=C1.l Xs;obtain ⟨⟨ys0,ys1,ys2⟩,_⟩:=C2.l Xs;have mxs:=World.new_ne ws _ xs0;have mys:=World.new_ne ws _ ys0;have mzs:ws.heap.size+1 ≠ w.heap.size:=(by have:=World.block_lt_of_cell? _ _ xs0;simp only at this;omega);have mws:ws.heap.size+1 ≠ w.heap.size+1:=(by have:=World.block_lt_of_cell? _ _ ys0;simp only at this;omega);(try have nswv:ws.heap.size ≠ wv.heap.size:=(by have hes:=es.size;(try simp at hes);omega));(try have mswv:wv.heap.size ≠ ws.heap.size:=(by have hes:=es.size;(try simp at hes);omega));(try have nswvp:ws.heap.size ≠ wv.heap.size+1:=(by have hes:=es.size;(try simp at hes);omega));(try have mswvp:wv.heap.size+1 ≠ ws.heap.size:=(by have hes:=es.size;(try simp at hes);omega)))
      | (go_at_call 243;refine (RA1.out _ _ hWs (TV.l (by first | exact Xs | exact xa Xs _ | exact xa (xa Xs _) _))).mono ?_;rintro rr wt ⟨q0,q1,rfl,hqd,et⟩;have Xt:Ext wv wt:=xt (by first | exact Xs | exact xa Xs _ | exact xa (xa Xs _) _) et;obtain ⟨⟨xt0,xt1,xt2⟩,_⟩:=C1.l Xt;obtain ⟨⟨yt0,yt1,yt2⟩,_⟩:=C2.l Xt;have mxt:=World.new_ne wt _ xt0;have myt:=World.new_ne wt _ yt0;have mzt:wt.heap.size+1 ≠ w.heap.size:=(by have:=World.block_lt_of_cell? _ _ xt0;simp only at this;omega);have mwt:wt.heap.size+1 ≠ w.heap.size+1:=(by have:=World.block_lt_of_cell? _ _ yt0;simp only at this;omega);(try have ntwv:wt.heap.size ≠ wv.heap.size:=(by have hes:=es.size;(try simp at hes);have het:=et.size;(try simp at het);omega));(try have mtwv:wv.heap.size ≠ wt.heap.size:=(by have hes:=es.size;(try simp at hes);have het:=et.size;(try simp at het);omega));(try have ntwvp:wt.heap.size ≠ wv.heap.size+1:=(by have hes:=es.size;(try simp at hes);have het:=et.size;(try simp at het);omega));(try have mtwvp:wv.heap.size+1 ≠ wt.heap.size:=(by have hes:=es.size;(try simp at hes);have het:=et.size;(try simp at het);omega));(try have ntws:wt.heap.size ≠ ws.heap.size:=(by have het:=et.size;(try simp at het);omega));(try have mtws:ws.heap.size ≠ wt.heap.size:=(by have het:=et.size;(try simp at het);omega));(try have ntwsp:wt.heap.size ≠ ws.heap.size+1:=(by have het:=et.size;(try simp at het);omega));(try have mtwsp:ws.heap.size+1 ≠ wt.heap.size:=(by have het:=et.size;(try simp at het);omega)))
      | (go_at_call_of 136 (Value.agg #[.bool n2,iQ A2,iQ e2]);refine (SZ2.out _).mono ?_;rintro rr wd ⟨r0,r1,rfl,hrd,ed⟩;have Xd:Ext wv wd:=xt (by first | exact Xt | exact xa Xt _ | exact xa (xa Xt _) _) ed;obtain ⟨⟨xd0,xd1,xd2⟩,_⟩:=C1.l Xd;obtain ⟨⟨yd0,yd1,yd2⟩,_⟩:=C2.l Xd;have mxd:=World.new_ne wd _ xd0;have myd:=World.new_ne wd _ yd0;have mzd:wd.heap.size+1 ≠ w.heap.size:=(by have:=World.block_lt_of_cell? _ _ xd0;simp only at this;omega);have mwd:wd.heap.size+1 ≠ w.heap.size+1:=(by have:=World.block_lt_of_cell? _ _ yd0;simp only at this;omega);(try have RA:Box2 wd (wv.heap.size) (.int .u64 0) (.int .u64 0):=(by exact (((Box2.made wv (.int .u64 0) (.int .u64 0) 156).l (xt (by first | exact xd (xr _) | exact xd (xa (xr _) _)) es)).l (xt (by first | exact xr _ | exact xa (xr _) _) et)).l (xt (by first | exact xr _ | exact xa (xr _) _) ed)));(try have RB:Box2 wd (wv.heap.size+1) (.int .u64 0) (.int .u64 0):=(by have h:=(((Box2.made (wv.alloc (.cells #[.int .u64 0,.int .u64 0] 156)) (.int .u64 0) (.int .u64 0) 156).l (xt (xd (xr _)) es)).l et).l ed;simp only [World.size_alloc] at h;exact h));(try have RC:Box2 wd (ws.heap.size) (.int .u64 0) (.int .u64 0):=(by exact ((Box2.made ws (.int .u64 0) (.int .u64 0) 156).l (xt (by first | exact xr _ | exact xa (xr _) _) et)).l (xt (by first | exact xr _ | exact xa (xr _) _) ed)));(try have RD:Box2 wd (ws.heap.size+1) (.int .u64 0) (.int .u64 0):=(by have h:=((Box2.made (ws.alloc (.cells #[.int .u64 0,.int .u64 0] 156)) (.int .u64 0) (.int .u64 0) 156).l et).l ed;simp only [World.size_alloc] at h;exact h));(try have RE:Box2 wd (wt.heap.size) (.int .u64 0) (.int .u64 0):=(by exact (Box2.made wt (.int .u64 0) (.int .u64 0) 156).l (xt (by first | exact xr _ | exact xa (xr _) _) ed)));(try have RF:Box2 wd (wt.heap.size+1) (.int .u64 0) (.int .u64 0):=(by have h:=(Box2.made (wt.alloc (.cells #[.int .u64 0,.int .u64 0] 156)) (.int .u64 0) (.int .u64 0) 156).l ed;simp only [World.size_alloc] at h;exact h));(try have RA':=RA;try obtain ⟨⟨a00,a01⟩,a03,a04⟩:=RA');(try obtain ⟨⟨a10,a11⟩,a13,a14⟩:=RA.up);(try have RB':=RB;try obtain ⟨⟨b00,b01⟩,b03,b04⟩:=RB');(try obtain ⟨⟨b10,b11⟩,b13,b14⟩:=RB.up);(try have RC':=RC;try obtain ⟨⟨c00,c01⟩,c03,c04⟩:=RC');(try obtain ⟨⟨c10,c11⟩,c13,c14⟩:=RC.up);(try have RD':=RD;try obtain ⟨⟨d00,d01⟩,d03,d04⟩:=RD');(try obtain ⟨⟨d10,d11⟩,d13,d14⟩:=RD.up);(try have RE':=RE;try obtain ⟨⟨e00,e01⟩,e03,e04⟩:=RE');(try obtain ⟨⟨e10,e11⟩,e13,e14⟩:=RE.up);(try have RF':=RF;try obtain ⟨⟨f00,f01⟩,f03,f04⟩:=RF');(try obtain ⟨⟨f10,f11⟩,f13,f14⟩:=RF.up);(try have ndwv:wd.heap.size ≠ wv.heap.size:=(by have hes:=es.size;(try simp at hes);have het:=et.size;(try simp at het);have hed:=ed.size;(try simp at hed);omega));(try have mdwv:wv.heap.size ≠ wd.heap.size:=(by have hes:=es.size;(try simp at hes);have het:=et.size;(try simp at het);have hed:=ed.size;(try simp at hed);omega));(try have ndwvp:wd.heap.size ≠ wv.heap.size+1:=(by have hes:=es.size;(try simp at hes);have het:=et.size;(try simp at het);have hed:=ed.size;(try simp at hed);omega));(try have mdwvp:wv.heap.size+1 ≠ wd.heap.size:=(by have hes:=es.size;(try simp at hes);have het:=et.size;(try simp at het);have hed:=ed.size;(try simp at hed);omega));(try have ndws:wd.heap.size ≠ ws.heap.size:=(by have het:=et.size;(try simp at het);have hed:=ed.size;(try simp at hed);omega));(try have mdws:ws.heap.size ≠ wd.heap.size:=(by have het:=et.size;(try simp at het);have hed:=ed.size;(try simp at hed);omega));(try have ndwsp:wd.heap.size ≠ ws.heap.size+1:=(by have het:=et.size;(try simp at het);have hed:=ed.size;(try simp at hed);omega));(try have mdwsp:ws.heap.size+1 ≠ wd.heap.size:=(by have het:=et.size;(try simp at het);have hed:=ed.size;(try simp at hed);omega));(try have ndwt:wd.heap.size ≠ wt.heap.size:=(by have hed:=ed.size;(try simp at hed);omega));(try have mdwt:wt.heap.size ≠ wd.heap.size:=(by have hed:=ed.size;(try simp at hed);omega));(try have ndwtp:wd.heap.size ≠ wt.heap.size+1:=(by have hed:=ed.size;(try simp at hed);omega));(try have mdwtp:wt.heap.size+1 ≠ wd.heap.size:=(by have hed:=ed.size;(try simp at hed);omega))))
     all_goals
      have Ss:=Xs.size;have St:=Xt.size;have esS:=es.size;have etS:=et.size;have edS:=ed.size
      (try simp at esS)
      (try simp at etS)
      (try simp at edS)
      go_wp2_with fail;go_meet
      case rel =>
       first
       | (refine ⟨wv.heap.size,wv.heap.size+1,rfl,rfl,?_⟩;exact zG2 (w:=wd) Xd hqd hrd RA RB (Nat.le_refl _) (Nat.le_succ _) (by omega))
       | (refine ⟨wv.heap.size+1,wv.heap.size,rfl,rfl,?_⟩;exact zG2 (w:=wd) Xd hqd hrd RB RA (Nat.le_succ _) (Nat.le_refl _) (by omega))
       | (refine ⟨ws.heap.size,ws.heap.size+1,rfl,rfl,?_⟩;exact zG2 (w:=wd) Xd hqd hrd RC RD Ss (Nat.le_succ_of_le Ss) (by omega))
       | (refine ⟨ws.heap.size+1,ws.heap.size,rfl,rfl,?_⟩;exact zG2 (w:=wd) Xd hqd hrd RD RC (Nat.le_succ_of_le Ss) Ss (by omega))
       | (refine ⟨wt.heap.size,wt.heap.size+1,rfl,rfl,?_⟩;exact zG2 (w:=wd) Xd hqd hrd RE RF St (Nat.le_succ_of_le St) (by omega))
       | (refine ⟨wt.heap.size+1,wt.heap.size,rfl,rfl,?_⟩;exact zG2 (w:=wd) Xd hqd hrd RF RE (Nat.le_succ_of_le St) St (by omega))
       | (refine ⟨wv.heap.size,ws.heap.size,rfl,rfl,?_⟩;exact zG2 (w:=wd) Xd hqd hrd RA RC (Nat.le_refl _) Ss (by omega))
       | (refine ⟨ws.heap.size,wv.heap.size,rfl,rfl,?_⟩;exact zG2 (w:=wd) Xd hqd hrd RC RA Ss (Nat.le_refl _) (by omega))
       | (refine ⟨wv.heap.size,wt.heap.size,rfl,rfl,?_⟩;exact zG2 (w:=wd) Xd hqd hrd RA RE (Nat.le_refl _) St (by omega))
       | (refine ⟨wt.heap.size,wv.heap.size,rfl,rfl,?_⟩;exact zG2 (w:=wd) Xd hqd hrd RE RA St (Nat.le_refl _) (by omega))
       | (refine ⟨ws.heap.size,wt.heap.size,rfl,rfl,?_⟩;exact zG2 (w:=wd) Xd hqd hrd RC RE Ss St (by omega))
       | (refine ⟨wt.heap.size,ws.heap.size,rfl,rfl,?_⟩;exact zG2 (w:=wd) Xd hqd hrd RE RC St Ss (by omega))
       | (refine ⟨wv.heap.size,wd.heap.size,rfl,rfl,?_⟩;exact wtwo3 (w:=wd) Xd hqd hrd RA (Nat.le_refl _))
       | (refine ⟨wd.heap.size,wv.heap.size,rfl,rfl,?_⟩;exact wtwo4 (w:=wd) Xd hqd hrd RA (Nat.le_refl _))
       | (refine ⟨ws.heap.size,wd.heap.size,rfl,rfl,?_⟩;exact wtwo3 (w:=wd) Xd hqd hrd RC Ss)
       | (refine ⟨wd.heap.size,ws.heap.size,rfl,rfl,?_⟩;exact wtwo4 (w:=wd) Xd hqd hrd RC Ss)
       | (refine ⟨wt.heap.size,wd.heap.size,rfl,rfl,?_⟩;exact wtwo3 (w:=wd) Xd hqd hrd RE St)
       | (refine ⟨wd.heap.size,wt.heap.size,rfl,rfl,?_⟩;exact wtwo4 (w:=wd) Xd hqd hrd RE St)
       | (refine ⟨wd.heap.size,wd.heap.size+1,rfl,rfl,?_⟩;exact wtwo1 (w:=wd) Xd hqd hrd)
       | (refine ⟨wd.heap.size+1,wd.heap.size,rfl,rfl,?_⟩;exact wtwo2 (w:=wd) Xd hqd hrd)
    case rest =>
     obtain ⟨b6,b7,rfl,rfl,l6,l7,ne67,W6,W7,x6⟩:=hcut
     rename World=>w6
     have ltv:w.heap.size+1+1<wv.heap.size:=World.block_lt_of_cell? _ _ Cr.1.1;replace C1:=C1.l x6;replace C2:=C2.l x6;replace Cr:=Cr.l x6;replace XV:=xt XV x6;obtain ⟨h6,l6',D6,V6⟩:=W6;obtain ⟨h7,l7',D7,V7⟩:=W7;clear p0 p1 p2 p3 p4 p5 SZ1 SZ2 RA1;have C1':=C1;have C2':=C2;have D6':=D6;have D7':=D7;obtain ⟨⟨p0,p1,p2⟩,_⟩:=C1';obtain ⟨⟨p3,p4,p5⟩,_⟩:=C2';obtain ⟨⟨q0,q1⟩,_⟩:=D6';obtain ⟨⟨q2,q3⟩,_⟩:=D7';have nz0:w.heap.size+1+1 ≠ w.heap.size:=(by omega);have nz1:w.heap.size+1+1 ≠ w.heap.size+1:=(by omega);have nz2:w.heap.size+1+1 ≠ b6:=(by omega);have nz3:w.heap.size+1+1 ≠ b7:=(by omega);by_cases hn:n1=n2
     ·have PU:Hid (∀ w2 v,WV v (X+A2)->Tens w2->Calls Tryz.prog 133 #[.bool n1,v,iQ e2,.bool false] w2 fun r w'=>r=.returned (resV R)/\Ext w2 w'):=fun w2 v hv hT=>by
       rw [SAME.out hn];exact zF7 _ _ _ w2 hv (by omega) (by omega) hT
      have hbb:(n1 == n2)=true:=(by rw [hn];cases n2 <;> rfl);clear SAME MORE LESS hn;go_upto_region 8 with fail;go_region_held3 (fun w'=>((w'.cell? ⟨w.heap.size,0,none⟩=some (.bool n1)/\w'.cell? ⟨w.heap.size,1,none⟩=some (iQ A1)/\w'.cell? ⟨w.heap.size,2,none⟩=some (iQ e1))/\w'.cell? ⟨w.heap.size+1,0,none⟩=some (.bool n2)/\w'.cell? ⟨w.heap.size+1,1,none⟩=some (iQ A2)/\w'.cell? ⟨w.heap.size+1,2,none⟩=some (iQ e2))/\(w'.cell? ⟨b6,0,none⟩=some (.int .u64 h6)/\w'.cell? ⟨b6,1,none⟩=some (.int .u64 l6'))/\w'.cell? ⟨b7,0,none⟩=some (.int .u64 h7)/\w'.cell? ⟨b7,1,none⟩=some (.int .u64 l7')) (go_keep) (first
       | (go_at_call 196;refine (zFN _ V6 V7 (by omega)).mono ?_;rintro rr w6a ⟨v8,rfl,hW8,e8⟩;have X8:Ext w6 w6a:=xt (xd (xr _)) e8;obtain ⟨⟨ga0,ga1,ga2⟩,_⟩:=C1.l X8;obtain ⟨⟨ha0,ha1,ha2⟩,_⟩:=C2.l X8;obtain ⟨⟨ia0,ia1⟩,_⟩:=D6.l X8;obtain ⟨⟨ja0,ja1⟩,_⟩:=D7.l X8)
       | (go_at_call 133;refine (PU.out _ _ hW8 (TV.l (xt x6 X8))).mono ?_;rintro rr w6b ⟨rfl,e9⟩;have X9:Ext w6 w6b:=xt X8 e9;obtain ⟨⟨gb0,gb1,gb2⟩,_⟩:=C1.l X9;obtain ⟨⟨hb0,hb1,hb2⟩,_⟩:=C2.l X9;obtain ⟨⟨ib0,ib1⟩,_⟩:=D6.l X9;obtain ⟨⟨jb0,jb1⟩,_⟩:=D7.l X9;obtain ⟨⟨m0,m1,m2,m3⟩,k0,k1,k2,k3⟩:=Cr.l X9))
      all_goals
       go_wp2_with fail;exact bodyPost_ret (v:=resV R) (by simp [results,Tryz.results231,go_sem,m0,m1,m2,m3]) rfl ⟨rfl,xset (xset (xset (xset (xt XV X9) (by simp only;omega) _) (by simp only;omega) _) (by simp only;omega) _) (by simp only;omega) _⟩
     ·have hbb:(n1 == n2)=false:=(by cases n1 <;> cases n2 <;> simp at hn ⊢);by_cases hlt:X<A2
      ·have PU:Hid (∀ w2 v,WV v (A2 - X)->Tens w2->Calls Tryz.prog 133 #[.bool n2,v,iQ e2,.bool false] w2 fun r w'=>r=.returned (resV R)/\Ext w2 w'):=fun w2 v hv hT=>by
        rw [LESS.out hn hlt];exact zF7 _ _ _ w2 hv (by omega) (by omega) hT
       have LS:Hid (∀ w2,Calls Tryz.prog 219 #[.agg #[.int .u64 h6,.int .u64 l6'],.agg #[.int .u64 h7,.int .u64 l7']] w2 fun e w'=>e=.returned (.bool true)/\Ext w2 w'):=fun w2=>by
        have:=zJV w2 V6 V7
        rwa [decide_eq_true hlt] at this
       clear SAME MORE LESS hn;go_wp2_with fail;refine (LS.out _).mono ?_;rintro rr w7 ⟨rfl,x7⟩;have hle:X<=A2:=(by omega);replace C1:=C1.l x7;replace C2:=C2.l x7;replace Cr:=Cr.l x7;replace XV:=xt XV x7;replace D6:=D6.l x7;replace D7:=D7.l x7;replace x6:=xt x6 x7;clear p0 p1 p2 p3 p4 p5 q0 q1 q2 q3 LS hbb x7;have C1':=C1;have C2':=C2;have D6':=D6;have D7':=D7;obtain ⟨⟨p0,p1,p2⟩,_⟩:=C1';obtain ⟨⟨p3,p4,p5⟩,_⟩:=C2';obtain ⟨⟨q0,q1⟩,_⟩:=D6';obtain ⟨⟨q2,q3⟩,_⟩:=D7';go_upto_region 10 with fail;go_region_held3 (fun w'=>((w'.cell? ⟨w.heap.size,0,none⟩=some (.bool n1)/\w'.cell? ⟨w.heap.size,1,none⟩=some (iQ A1)/\w'.cell? ⟨w.heap.size,2,none⟩=some (iQ e1))/\w'.cell? ⟨w.heap.size+1,0,none⟩=some (.bool n2)/\w'.cell? ⟨w.heap.size+1,1,none⟩=some (iQ A2)/\w'.cell? ⟨w.heap.size+1,2,none⟩=some (iQ e2))/\(w'.cell? ⟨b6,0,none⟩=some (.int .u64 h6)/\w'.cell? ⟨b6,1,none⟩=some (.int .u64 l6'))/\w'.cell? ⟨b7,0,none⟩=some (.int .u64 h7)/\w'.cell? ⟨b7,1,none⟩=some (.int .u64 l7')) (go_keep) (first
        | (go_at_call 244;refine (zII _ V7 V6 hle).mono ?_;rintro rr w7a ⟨v8,rfl,hW8,e8⟩;have X8:Ext w7 w7a:=xt (xd (xr _)) e8;obtain ⟨⟨ga0,ga1,ga2⟩,_⟩:=C1.l X8;obtain ⟨⟨ha0,ha1,ha2⟩,_⟩:=C2.l X8;obtain ⟨⟨ia0,ia1⟩,_⟩:=D6.l X8;obtain ⟨⟨ja0,ja1⟩,_⟩:=D7.l X8)
        | (go_at_call 133;refine (PU.out _ _ hW8 (TV.l (xt x6 X8))).mono ?_;rintro rr w7b ⟨rfl,e9⟩;have X9:Ext w7 w7b:=xt X8 e9;obtain ⟨⟨gb0,gb1,gb2⟩,_⟩:=C1.l X9;obtain ⟨⟨hb0,hb1,hb2⟩,_⟩:=C2.l X9;obtain ⟨⟨ib0,ib1⟩,_⟩:=D6.l X9;obtain ⟨⟨jb0,jb1⟩,_⟩:=D7.l X9;obtain ⟨⟨m0,m1,m2,m3⟩,k0,k1,k2,k3⟩:=Cr.l X9))
       all_goals
        go_wp2_with fail;exact bodyPost_ret (v:=resV R) (by simp [results,Tryz.results231,go_sem,m0,m1,m2,m3]) rfl ⟨rfl,xset (xset (xset (xset (xt XV X9) (by simp only;omega) _) (by simp only;omega) _) (by simp only;omega) _) (by simp only;omega) _⟩
      ·have hge:A2<=X:=(by omega);have PU:Hid (∀ w2 v,WV v (X - A2)->Tens w2->Calls Tryz.prog 133 #[.bool n1,v,iQ e2,.bool false] w2 fun r w'=>r=.returned (resV R)/\Ext w2 w'):=fun w2 v hv hT=>by
        rw [MORE.out hn hge];exact zF7 _ _ _ w2 hv (by omega) (by omega) hT
       have LS:Hid (∀ w2,Calls Tryz.prog 219 #[.agg #[.int .u64 h6,.int .u64 l6'],.agg #[.int .u64 h7,.int .u64 l7']] w2 fun e w'=>e=.returned (.bool false)/\Ext w2 w'):=fun w2=>by
        have:=zJV w2 V6 V7
        rwa [decide_eq_false hlt] at this
       clear SAME MORE LESS hn hlt;go_wp2_with fail;refine (LS.out _).mono ?_;rintro rr w7 ⟨rfl,x7⟩;replace C1:=C1.l x7;replace C2:=C2.l x7;replace Cr:=Cr.l x7;replace XV:=xt XV x7;replace D6:=D6.l x7;replace D7:=D7.l x7;replace x6:=xt x6 x7;clear p0 p1 p2 p3 p4 p5 q0 q1 q2 q3 LS hbb x7;have C1':=C1;have C2':=C2;have D6':=D6;have D7':=D7;obtain ⟨⟨p0,p1,p2⟩,_⟩:=C1';obtain ⟨⟨p3,p4,p5⟩,_⟩:=C2';obtain ⟨⟨q0,q1⟩,_⟩:=D6';obtain ⟨⟨q2,q3⟩,_⟩:=D7';go_upto_region 11 with fail;go_region_held3 (fun w'=>((w'.cell? ⟨w.heap.size,0,none⟩=some (.bool n1)/\w'.cell? ⟨w.heap.size,1,none⟩=some (iQ A1)/\w'.cell? ⟨w.heap.size,2,none⟩=some (iQ e1))/\w'.cell? ⟨w.heap.size+1,0,none⟩=some (.bool n2)/\w'.cell? ⟨w.heap.size+1,1,none⟩=some (iQ A2)/\w'.cell? ⟨w.heap.size+1,2,none⟩=some (iQ e2))/\(w'.cell? ⟨b6,0,none⟩=some (.int .u64 h6)/\w'.cell? ⟨b6,1,none⟩=some (.int .u64 l6'))/\w'.cell? ⟨b7,0,none⟩=some (.int .u64 h7)/\w'.cell? ⟨b7,1,none⟩=some (.int .u64 l7')) (go_keep) (first
        | (go_at_call 244;refine (zII _ V6 V7 hge).mono ?_;rintro rr w7a ⟨v8,rfl,hW8,e8⟩;have X8:Ext w7 w7a:=xt (xd (xr _)) e8;obtain ⟨⟨ga0,ga1,ga2⟩,_⟩:=C1.l X8;obtain ⟨⟨ha0,ha1,ha2⟩,_⟩:=C2.l X8;obtain ⟨⟨ia0,ia1⟩,_⟩:=D6.l X8;obtain ⟨⟨ja0,ja1⟩,_⟩:=D7.l X8)
        | (go_at_call 133;refine (PU.out _ _ hW8 (TV.l (xt x6 X8))).mono ?_;rintro rr w7b ⟨rfl,e9⟩;have X9:Ext w7 w7b:=xt X8 e9;obtain ⟨⟨gb0,gb1,gb2⟩,_⟩:=C1.l X9;obtain ⟨⟨hb0,hb1,hb2⟩,_⟩:=C2.l X9;obtain ⟨⟨ib0,ib1⟩,_⟩:=D6.l X9;obtain ⟨⟨jb0,jb1⟩,_⟩:=D7.l X9;obtain ⟨⟨m0,m1,m2,m3⟩,k0,k1,k2,k3⟩:=Cr.l X9))
       all_goals
        go_wp2_with fail;exact bodyPost_ret (v:=resV R) (by simp [results,Tryz.results231,go_sem,m0,m1,m2,m3]) rfl ⟨rfl,xset (xset (xset (xset (xt XV X9) (by simp only;omega) _) (by simp only;omega) _) (by simp only;omega) _) (by simp only;omega) _⟩
end Go.Proofs.YtjlojlgdkfpcdaaGreatDoor

