/-
  Several texts in one: CmpImpl, CmpImplB, CmpLaw, V6q, V6r, V6s.
-/
import Derived.Test.YtkadkfmidlhedaaGreatDoorMg0
import Derived.Test.YtkadkfmidlhedaaGreatDoorWideE
import Derived.Test.YtkadkfmidlhedaaGreatDoorMg4
import Derived.Test.YtkadkfmidlhedaaGreatDoorMg13
import Derived.Test.YtkadkfmidlhedaaGreatDoorMg32
import Derived.Test.YtkadkfmidlhedaaGreatDoorMg33
import Derived.Test.YtkadkfmidlhedaaGreatDoorShelf
import Derived.Test.YtkadkfmidlhedaaGreatDoorMg22
import Derived.Deep.RegionHeld3
set_option maxRecDepth 100000
set_option maxHeartbeats 4000000
namespace Go.Proofs.YtkadkfmidlhedaaGreatDoor
open Go.RowKit
theorem zCO (x y:Int) (w:World) :
  Calls Tryz.prog 38 #[iQ x,iQ y] w fun e w'=>e=.returned (iQ (cmpI x y))/\w'=w:=by
 have H:Hid (cmpI x y=if x<y then -1 else if y<x then 1 else 0):=rfl;go_enter Tryz.func38,Tryz.ntmps38
 go_wp2
 all_goals go_ret
 all_goals refine ⟨zA9 ?_,rfl⟩
 all_goals (rw [H.out];split <;> (try split) <;> omega)
theorem zKL (x y:Int) (w:World) :
  Calls Tryz.prog 132 #[.int .u64 x,.int .u64 y] w fun e w'=>e=.returned (iQ (cmpI x y))/\w'=w:=by
 have H:Hid (cmpI x y=if x<y then -1 else if y<x then 1 else 0):=rfl;go_enter Tryz.func132,Tryz.ntmps132
 go_wp2
 all_goals go_ret
 all_goals refine ⟨zA9 ?_,rfl⟩
 all_goals (rw [H.out];split <;> (try split) <;> omega)
def zB5 (da ea db eb:Int):Int:=cmpI (da * 10 ^ (ea - min ea eb).toNat) (db * 10 ^ (eb - min ea eb).toNat)
theorem zER (n:Nat):(0:Int)<10 ^ n:=Int.pow_pos (by decide)
theorem zEL (a p:Nat):((a * 10 ^ p:Nat):Int)=(a:Int) * 10 ^ p:=by rw [Int.natCast_mul,Int.natCast_pow];rfl
theorem zS0 {x y c:Int} (hc:0<c):cmpI (x * c) (y * c)=cmpI x y:=by
 have e:x * c<y * c ↔ x<y:=Int.mul_lt_mul_right hc;have e':y * c<x * c ↔ y<x:=Int.mul_lt_mul_right hc;unfold cmpI;simp only [e,e']
theorem zPV (x y:Int):cmpI x y = -cmpI y x:=by unfold cmpI;split <;> (try split) <;> (try split) <;> (try split) <;> omega
theorem Dig.low {a k:Nat} (h:Dig a k) (h0:0<a):0<k/\10 ^ (k - 1)<=a:=by
 obtain ⟨h1,h2⟩:=h
 rcases h2 with rfl | h2
 ·simp at h1;omega
 ·refine ⟨?_,h2⟩;by_cases hk:k=0
  ·subst hk;simp at h1;omega
  ·omega
theorem zSD {da db ka kb p q:Nat} (ha:da<10 ^ ka) (hb:10 ^ (kb - 1)<=db) (hk:0<kb) (h:ka+p+1<=kb+q):da * 10 ^ p<db * 10 ^ q:=by
 have h1:da * 10 ^ p<10 ^ ka * 10 ^ p:=Nat.mul_lt_mul_of_pos_right ha (Nat.pow_pos (by decide));have h2:10 ^ (kb - 1) * 10 ^ q<=db * 10 ^ q:=Nat.mul_le_mul_right _ hb;have h3:10 ^ ka * 10 ^ p<=10 ^ (kb - 1) * 10 ^ q:=by
  rw [<- Nat.pow_add,<- Nat.pow_add];exact Nat.pow_le_pow_right (by decide) (by omega)
 omega
theorem zT7 {da db:Nat} {ea eb:Int} {ka kb:Nat} (ha:Dig da ka) (hb:Dig db kb) (hb0:0<db) (h:ea+ka<eb+kb):(da:Int) * 10 ^ (ea - min ea eb).toNat<(db:Int) * 10 ^ (eb - min ea eb).toNat:=by
 obtain ⟨b1,b2⟩:=hb.low hb0;have:=zSD (p:=(ea - min ea eb).toNat) (q:=(eb - min ea eb).toNat) ha.1 b2 b1 (by omega);rw [<- zEL,<- zEL];omega
theorem zT8 {da db:Nat} {ea eb:Int} {ka kb:Nat} (ha:Dig da ka) (hb:Dig db kb) (ha0:0<da) (h:eb+kb<ea+ka):(db:Int) * 10 ^ (eb - min ea eb).toNat<(da:Int) * 10 ^ (ea - min ea eb).toNat:=by
 obtain ⟨b1,b2⟩:=ha.low ha0;have:=zSD (p:=(eb - min ea eb).toNat) (q:=(ea - min ea eb).toNat) hb.1 b2 b1 (by omega);rw [<- zEL,<- zEL];omega
theorem zMA {da db:Nat} {ea eb:Int} {ka kb:Nat} (ha:Dig da ka) (hb:Dig db kb) (ha0:0<da) (hb0:0<db) (h:ea+ka ≠ eb+kb):cmpI (ea+ka) (eb+kb)=zB5 da ea db eb:=by
 unfold zB5;by_cases hl:ea+ka<eb+kb
 ·rw [zBT hl,zBT (zT7 ha hb hb0 hl)]
 ·rw [zBU (by omega),zBU (zT8 ha hb ha0 (by omega))]
theorem zNV {da db:Nat} {ea eb:Int} {ka kb:Nat} (ka15:ka<=15) (kb15:kb<=15) (h:ea+ka=eb+kb):cmpI ((da * 10 ^ (15 - ka):Nat):Int) ((db * 10 ^ (15 - kb):Nat):Int)=zB5 da ea db eb:=by
 obtain ⟨p,hp⟩:=nm ((ea - min ea eb).toNat);obtain ⟨q,hq⟩:=nm ((eb - min ea eb).toNat);obtain ⟨c,hc⟩:∃ c,15 - ka=p+c:=⟨15 - ka - p,by omega⟩;have hc':15 - kb=q+c:=by omega
 unfold zB5;rw [hp,hq,hc,hc',zEL,zEL,Int.pow_add,Int.pow_add,<- Int.mul_assoc,<- Int.mul_assoc];exact zS0 (zER c)
theorem zNU {da db:Nat} {ea eb:Int} (h:da=0\/db=0):cmpI (da:Int) (db:Int)=zB5 da ea db eb:=by
 unfold zB5
 rcases h with rfl | rfl
 ·by_cases hd:db=0
  ·subst hd;simp
  ·rw [zBT (by omega),zBT];have:=Int.mul_pos (show (0:Int)<(db:Int) by omega) (zER (eb - min ea eb).toNat);simpa using this
 ·by_cases hd:da=0
  ·subst hd;simp
  ·rw [zBU (by omega),zBU];have:=Int.mul_pos (show (0:Int)<(da:Int) by omega) (zER (ea - min ea eb).toNat);simpa using this
theorem Dig.le15 {a k:Nat} (h:Dig a k) (ha:a<1000000000000000):k<=15:=by
 by_cases hk:k<=15
 ·exact hk
 ·obtain ⟨_,h2⟩:=h
  rcases h2 with rfl | h2
  ·omega
  ·have:10 ^ 15<=10 ^ (k - 1):=Nat.pow_le_pow_right (by decide) (by omega);have e:(10:Nat) ^ 15=1000000000000000:=by decide
   omega
theorem zSK {a k:Nat} (h:Dig a k) (hk:k<=15):a * 10 ^ (15 - k)<1000000000000000:=by
 have h1:a * 10 ^ (15 - k)<10 ^ k * 10 ^ (15 - k):=Nat.mul_lt_mul_of_pos_right h.1 (Nat.pow_pos (by decide));rw [<- Nat.pow_add,show k+(15 - k)=15 by omega] at h1;have e:(10:Nat) ^ 15=1000000000000000:=by decide
 omega
theorem zHU {v:Value} {a:Nat} (n:Int) (h0:0<=n) (hn:n<=38) (w:World) (hv:WV v a) (hT:Tens w) (hlt:a * 10 ^ n.toNat<340282366920938463463374607431768211456) :
  Calls Tryz.prog 133 #[v,iQ n] w fun e w'=>∃ v',e=.returned v'/\WV v' (a * 10 ^ n.toNat)/\Ext w w':=by
 obtain ⟨m,rfl⟩:=Int.eq_ofNat_of_zero_le h0;rw [Int.toNat_natCast] at *;exact zEF m (by omega) w hv hT hlt
theorem WV.low {v:Value} {n:Nat} (h:WV v n) (hn:n<18446744073709551616):v=.agg #[.int .u64 0,.int .u64 n]:=by
 obtain ⟨h,l,rfl,h1,h2,h3⟩:=h;obtain rfl:h=0:=by omega
 obtain rfl:l=n:=by omega
 rfl
theorem zRK (h l:Int) (w:World):(Instr.field 118 (.agg #[.int .u64 h,.int .u64 l]) 1).run Tryz.prog w=.ok (.int .u64 l) w:=by kernel_rfl
theorem zDR (na nb:Bool) (da db:Nat) (ea eb:Int) (w:World) (hda:da<1000000000000000) (hdb:db<1000000000000000) (ea0 : -300<=ea) (ea1:ea<=300) (eb0 : -300<=eb) (eb1:eb<=300) (hT:Tens w) :
  Calls Tryz.prog 92 #[.agg #[.bool na,iQ da,iQ ea],.agg #[.bool nb,iQ db,iQ eb]] w fun e w'=>e=.returned (iQ (zB5 da ea db eb))/\Ext w w':=by
 have Ba:=(Box3.made w (.bool na) (iQ da) (iQ ea) 24).l (x1 _ (.cells #[.bool nb,iQ db,iQ eb] 24));have Bb:=Box3.made (w.alloc (.cells #[.bool na,iQ da,iQ ea] 24)) (.bool nb) (iQ db) (iQ eb) 24;simp only [World.size_alloc] at Bb;have T:=hT.l (xa (x1 w (.cells #[.bool na,iQ da,iQ ea] 24)) (.cells #[.bool nb,iQ db,iQ eb] 24));clear hT;have Ba':=Ba;have Bb':=Bb;obtain ⟨⟨p0,p1,p2⟩,_⟩:=Ba';obtain ⟨⟨q0,q1,q2⟩,_⟩:=Bb';by_cases hz:da=0\/db=0
 ·have H:Hid (cmpI (da:Int) (db:Int)=zB5 da ea db eb):=zNU hz;by_cases hza:da=0
  ·have c1:(((da:Int)) == 0)=true:=by rw [hza];rfl
   clear hz hza;go_enter Tryz.func92,Tryz.ntmps92;go_wp2_with fail;refine (zCO _ _ _).mono ?_;rintro e w1 ⟨rfl,rfl⟩
   go_wp2
   go_ret;exact ⟨zA9 H.out,xa (x1 _ _) _⟩
  ·have c1:(((da:Int)) == 0)=false:=by rw [beq_eq_false_iff_ne];omega
   have c2:(((db:Int)) == 0)=true:=by rw [hz.resolve_left hza];rfl
   clear hz hza;go_enter Tryz.func92,Tryz.ntmps92;go_wp2_with fail;refine (zCO _ _ _).mono ?_;rintro e w1 ⟨rfl,rfl⟩
   go_wp2
   go_ret;exact ⟨zA9 H.out,xa (x1 _ _) _⟩
 ·have ha0:0<da:=by omega
  have hb0:0<db:=by omega
  have c1:(((da:Int)) == 0)=false:=by rw [beq_eq_false_iff_ne];omega
  have c2:(((db:Int)) == 0)=false:=by rw [beq_eq_false_iff_ne];omega
  clear hz;go_enter Tryz.func92,Tryz.ntmps92;go_wp2_with fail;go_region_held3 (fun w'=>(w'.cell? ⟨w.heap.size,0,none⟩=some (.bool na)/\w'.cell? ⟨w.heap.size,1,none⟩=some (iQ da)/\w'.cell? ⟨w.heap.size,2,none⟩=some (iQ ea))/\w'.cell? ⟨w.heap.size+1,0,none⟩=some (.bool nb)/\w'.cell? ⟨w.heap.size+1,1,none⟩=some (iQ db)/\w'.cell? ⟨w.heap.size+1,2,none⟩=some (iQ eb)) (go_keep)
   (first
    | (go_at_call_of 130 (Value.agg #[.bool na,iQ da,iQ ea]);refine (zBH na da ea _ hda).mono ?_;rintro e w1 ⟨v1,rfl,z1,e1⟩;have X1:=xt (xd (xr _)) e1;obtain ⟨⟨a10,a11,a12⟩,_⟩:=Ba.l X1;obtain ⟨⟨b10,b11,b12⟩,_⟩:=Bb.l X1)
    | (go_at_call_of 130 (Value.agg #[.bool nb,iQ db,iQ eb]);refine (zBH nb db eb _ hdb).mono ?_;rintro e w3 ⟨v3,rfl,z3,e3⟩;have X3:=xt X2 e3;obtain ⟨⟨a30,a31,a32⟩,_⟩:=Ba.l X3;obtain ⟨⟨b30,b31,b32⟩,_⟩:=Bb.l X3)
    | (go_at_call_of 131 v1;refine (zCE _ z1 (T.l X1)).mono ?_;rintro e w2 ⟨ka,rfl,ga,ka39,e2⟩;have X2:=xt X1 e2;obtain ⟨⟨a20,a21,a22⟩,_⟩:=Ba.l X2;obtain ⟨⟨b20,b21,b22⟩,_⟩:=Bb.l X2)
    | (go_at_call_of 131 v3;refine (zCE _ z3 (T.l X3)).mono ?_;rintro e w4 ⟨kb,rfl,gb,kb39,e4⟩;have X4:=xt X3 e4;obtain ⟨⟨a40,a41,a42⟩,_⟩:=Ba.l X4;obtain ⟨⟨b40,b41,b42⟩,_⟩:=Bb.l X4))
  have ka15:=ga.le15 hda;have kb15:=gb.le15 hdb;by_cases hne:ea+ka=eb+kb
  ·have H:Hid (cmpI ((da * 10 ^ (15 - ka):Nat):Int) ((db * 10 ^ (15 - kb):Nat):Int)=zB5 da ea db eb):=zNV ka15 kb15 hne;have c3:(cmpI (ea+(ka:Int)) (eb+(kb:Int)) != 0)=false:=by rw [hne,zFW];rfl
   have HN:Hid (ea+ka=eb+kb):=hne;have fa:=zSK ga ka15;have fb:=zSK gb kb15;have na1:((15:Int) - (ka:Int)).toNat=15 - ka:=by omega
   have nb1:((15:Int) - (kb:Int)).toNat=15 - kb:=by omega
   obtain ⟨NA,hNA⟩:=nm (da * 10 ^ (15 - ka));obtain ⟨NB,hNB⟩:=nm (db * 10 ^ (15 - kb));rw [hNA] at fa H;rw [hNB] at fb H;have RA:Hid (∀ (v:Value) (w:World),WV v da->Tens w->Calls Tryz.prog 133 #[v,iQ (15 - (ka:Int))] w fun e w'=>e=.returned (.agg #[.int .u64 0,.int .u64 NA])/\Ext w w'):=fun v w hv hT=>by
    refine (zHU (15 - (ka:Int)) (by omega) (by omega) w hv hT (by rw [na1,hNA];omega)).mono ?_;rintro e w' ⟨v',rfl,hv',e'⟩;rw [na1,hNA] at hv';exact ⟨by rw [hv'.low (by omega)],e'⟩
   have RB:Hid (∀ (v:Value) (w:World),WV v db->Tens w->Calls Tryz.prog 133 #[v,iQ (15 - (kb:Int))] w fun e w'=>e=.returned (.agg #[.int .u64 0,.int .u64 NB])/\Ext w w'):=fun v w hv hT=>by
    refine (zHU (15 - (kb:Int)) (by omega) (by omega) w hv hT (by rw [nb1,hNB];omega)).mono ?_;rintro e w' ⟨v',rfl,hv',e'⟩;rw [nb1,hNB] at hv';exact ⟨by rw [hv'.low (by omega)],e'⟩
   have wka:IntKind.i64.wrap (15 - (ka:Int))=15 - (ka:Int):=by rw [IntKind.wrap_i64];omega
   have wkb:IntKind.i64.wrap (15 - (kb:Int))=15 - (kb:Int):=by rw [IntKind.wrap_i64];omega
   have hfl:=zRK;clear hne hNA hNB na1 nb1;go_wp2_with fail;refine (zCO _ _ _).mono ?_;rintro e w1' ⟨rfl,hw⟩;subst hw;go_wp2_with fail;go_region_held3 (fun w'=>(w'.cell? ⟨w.heap.size,0,none⟩=some (.bool na)/\w'.cell? ⟨w.heap.size,1,none⟩=some (iQ da)/\w'.cell? ⟨w.heap.size,2,none⟩=some (iQ ea))/\w'.cell? ⟨w.heap.size+1,0,none⟩=some (.bool nb)/\w'.cell? ⟨w.heap.size+1,1,none⟩=some (iQ db)/\w'.cell? ⟨w.heap.size+1,2,none⟩=some (iQ eb)) (go_keep)
    (first
     | (go_at_call_of 130 (Value.agg #[.bool na,iQ da,iQ ea]);refine (zBH na da ea _ hda).mono ?_;rintro e w5 ⟨v5,rfl,z5,e5⟩;have X5:=xt X4 (xt (xd (xr _)) e5);obtain ⟨⟨a50,a51,a52⟩,_⟩:=Ba.l X5;obtain ⟨⟨b50,b51,b52⟩,_⟩:=Bb.l X5)
     | (go_at_call_of 130 (Value.agg #[.bool nb,iQ db,iQ eb]);refine (zBH nb db eb _ hdb).mono ?_;rintro e w7 ⟨v7,rfl,z7,e7⟩;have X7:=xt X6 e7;obtain ⟨⟨a70,a71,a72⟩,_⟩:=Ba.l X7;obtain ⟨⟨b70,b71,b72⟩,_⟩:=Bb.l X7)
     | (go_at_call_of 133 v5;refine (RA.out _ _ z5 (T.l X5)).mono ?_;rintro e w6 ⟨rfl,e6⟩;have X6:=xt X5 e6;obtain ⟨⟨a60,a61,a62⟩,_⟩:=Ba.l X6;obtain ⟨⟨b60,b61,b62⟩,_⟩:=Bb.l X6)
     | (go_at_call_of 133 v7;refine (RB.out _ _ z7 (T.l X7)).mono ?_;rintro e w8 ⟨rfl,e8⟩;have X8:=xt X7 e8;obtain ⟨⟨a80,a81,a82⟩,_⟩:=Ba.l X8;obtain ⟨⟨b80,b81,b82⟩,_⟩:=Bb.l X8)
     | (go_at_call 132;refine (zKL _ _ _).mono ?_;rintro e w9 ⟨rfl,hw9⟩;subst hw9))
   all_goals
    go_wp2
    go_ret;exact ⟨zA9 H.out,xt (xa (x1 _ _) _) (by assumption)⟩
  ·have H:Hid (cmpI (ea+ka) (eb+kb)=zB5 da ea db eb):=zMA ga gb ha0 hb0 hne;have c3:(cmpI (ea+(ka:Int)) (eb+(kb:Int)) != 0)=true:=by
    rw [bne_iff_ne];unfold cmpI
    split <;> (try split) <;> omega
   go_wp2_with fail;refine (zCO _ _ _).mono ?_;rintro e w1' ⟨rfl,hw⟩;subst hw
   go_wp2
   go_ret;exact ⟨zA9 H.out,xt (xa (x1 _ _) _) X4⟩
theorem zLK {neg:Bool} {d x:Int} (h:zA1 neg d x=true) (hn:neg=true):0<d:=by
 unfold zA1 at h;by_cases hd:d=0
 ·rw [if_pos hd,hn] at h;simp at h
 ·rw [if_neg hd] at h;simp at h;omega
theorem zCP {na nb:Bool} {da ea db eb:Int} (ga:zA1 na da ea=true) (gb:zA1 nb db eb=true):zBK na da ea nb db eb=cmpI (sgn na da * 10 ^ (ea - min ea eb).toNat) (sgn nb db * 10 ^ (eb - min ea eb).toNat):=by
 unfold zBK;rw [ga,gb];rfl
theorem zN0 {da ea db eb:Int} (ga:zA1 false da ea=true) (gb:zA1 false db eb=true):zBK false da ea false db eb=zB5 da ea db eb:=by
 rw [zCP ga gb];rfl
theorem zN1 {da ea db eb:Int} (ga:zA1 true da ea=true) (gb:zA1 true db eb=true):zBK true da ea true db eb=zB5 db eb da ea:=by
 rw [zCP ga gb,zB5,Int.min_comm eb ea];simp only [sgn,if_true,Int.neg_mul];rw [<- zLW,zPV];simp
theorem zPY {da ea db eb:Int} (ga:zA1 true da ea=true) (gb:zA1 false db eb=true):zBK true da ea false db eb = -1:=by
 rw [zCP ga gb];refine zBT ?_;have h1:=Int.mul_pos (zLK ga rfl) (zER (ea - min ea eb).toNat);have h2:=Int.mul_nonneg (zAN gb).1 (Int.le_of_lt (zER (eb - min ea eb).toNat));simp only [sgn,if_true,Int.neg_mul];show _<db * _;omega
theorem zPX {da ea db eb:Int} (ga:zA1 false da ea=true) (gb:zA1 true db eb=true):zBK false da ea true db eb=1:=by
 rw [zCP ga gb];refine zBU ?_;have h1:=Int.mul_pos (zLK gb rfl) (zER (eb - min ea eb).toNat);have h2:=Int.mul_nonneg (zAN ga).1 (Int.le_of_lt (zER (ea - min ea eb).toNat));simp only [sgn,if_true,Int.neg_mul];show _<da * _;omega
theorem zV1 (na nb:Bool) (da ea db eb:Int) (w:World) (da1 : -9223372036854775808<=da) (da2:da<=9223372036854775807) (db1 : -9223372036854775808<=db) (db2:db<=9223372036854775807) (hT:Tens w) :
  Calls Tryz.prog 39 #[.agg #[.bool na,iQ da,iQ ea],.agg #[.bool nb,iQ db,iQ eb]] w fun e w'=>e=.returned (iQ (zBK na da ea nb db eb))/\Ext w w':=by
 have Ba:=(Box3.made w (.bool na) (iQ da) (iQ ea) 24).l (x1 _ (.cells #[.bool nb,iQ db,iQ eb] 24));have Bb:=Box3.made (w.alloc (.cells #[.bool na,iQ da,iQ ea] 24)) (.bool nb) (iQ db) (iQ eb) 24;simp only [World.size_alloc] at Bb;have T:=hT.l (xa (x1 w (.cells #[.bool na,iQ da,iQ ea] 24)) (.cells #[.bool nb,iQ db,iQ eb] 24));clear hT;cases ga:zA1 na da ea
 ·have H:Hid (zBK na da ea nb db eb = -2):=by unfold zBK;rw [ga];rfl
  go_enter Tryz.func39,Tryz.ntmps39;go_wp2_with fail;refine (zAB _ _ _ _ _ da1 da2 T ga).mono ?_;rintro e w1 ⟨rfl,e1⟩
  go_wp2
  go_ret;exact ⟨zA9 H.out.symm,xt (xa (x1 _ _) _) e1⟩
 ·cases gb:zA1 nb db eb
  ·have H:Hid (zBK na da ea nb db eb = -2):=by unfold zBK;rw [ga,gb];rfl
   go_enter Tryz.func39,Tryz.ntmps39;go_wp2_with fail;refine (zAB _ _ _ _ _ da1 da2 T ga).mono ?_;rintro e w1 ⟨rfl,e1⟩;obtain ⟨⟨q0,q1,q2⟩,_⟩:=Bb.l e1;go_wp2_with fail;refine (zAB _ _ _ _ _ db1 db2 (T.l e1) gb).mono ?_;rintro e w2 ⟨rfl,e2⟩
   go_wp2
   go_ret;exact ⟨zA9 H.out.symm,xt (xt (xa (x1 _ _) _) e1) e2⟩
  ·obtain ⟨a1,a2,a3,a4⟩:=zAN ga;obtain ⟨b1,b2,b3,b4⟩:=zAN gb;go_enter Tryz.func39,Tryz.ntmps39;go_wp2_with fail;refine (zAB _ _ _ _ _ da1 da2 T ga).mono ?_;rintro e w1 ⟨rfl,e1⟩;obtain ⟨⟨q0,q1,q2⟩,_⟩:=Bb.l e1;go_wp2_with fail;refine (zAB _ _ _ _ _ db1 db2 (T.l e1) gb).mono ?_;rintro e w2 ⟨rfl,e2⟩;have T2:=(T.l e1).l e2;obtain ⟨⟨r0,r1,r2⟩,_⟩:=(Bb.l e1).l e2;obtain ⟨⟨s0,s1,s2⟩,_⟩:=(Ba.l e1).l e2;have X2:=xt (xt (xa (x1 _ _) _) e1) e2;clear e1 e2 q0 q1 q2 Ba Bb T;have CS:Hid (∀ (w:World),Tens w->Calls Tryz.prog 92 #[.agg #[.bool na,iQ da,iQ ea],.agg #[.bool nb,iQ db,iQ eb]] w fun e w'=>e=.returned (iQ (zB5 da ea db eb))/\Ext w w'):=fun w hT=>by
    obtain ⟨m,rfl⟩:=Int.eq_ofNat_of_zero_le a1;obtain ⟨n,rfl⟩:=Int.eq_ofNat_of_zero_le b1;exact zDR na nb m n ea eb w (by omega) (by omega) a3 a4 b3 b4 hT
   have CT:Hid (∀ (w:World),Tens w->Calls Tryz.prog 92 #[.agg #[.bool nb,iQ db,iQ eb],.agg #[.bool na,iQ da,iQ ea]] w fun e w'=>e=.returned (iQ (zB5 db eb da ea))/\Ext w w'):=fun w hT=>by
    obtain ⟨m,rfl⟩:=Int.eq_ofNat_of_zero_le a1;obtain ⟨n,rfl⟩:=Int.eq_ofNat_of_zero_le b1;exact zDR nb na n m eb ea w (by omega) (by omega) b3 b4 a3 a4 hT
   cases na <;> cases nb
   ·have H:Hid (zBK false da ea false db eb=zB5 da ea db eb):=zN0 ga gb;by_cases hd:da=db
    ·subst hd;by_cases he:ea=eb
     ·subst he;have H':Hid (zBK false da ea false da ea=0):=(by rw [H.out];exact zFW _);clear CS CT
      go_wp2
      go_ret;exact ⟨zA9 H'.out.symm,X2⟩
     ·go_wp2_with fail;refine (CS.out _ T2).mono ?_;rintro e w3 ⟨rfl,e3⟩
      go_wp2
      go_ret;exact ⟨zA9 H.out.symm,xt X2 e3⟩
    ·go_wp2_with fail;refine (CS.out _ T2).mono ?_;rintro e w3 ⟨rfl,e3⟩
     go_wp2
     go_ret;exact ⟨zA9 H.out.symm,xt X2 e3⟩
   ·have H:Hid (zBK false da ea true db eb=1):=zPX ga gb;clear CS CT
    go_wp2
    go_ret;exact ⟨zA9 H.out.symm,X2⟩
   ·have H:Hid (zBK true da ea false db eb = -1):=zPY ga gb;clear CS CT
    go_wp2
    go_ret;exact ⟨zA9 H.out.symm,X2⟩
   ·have H:Hid (zBK true da ea true db eb=zB5 db eb da ea):=zN1 ga gb;by_cases hd:da=db
    ·subst hd;by_cases he:ea=eb
     ·subst he;have H':Hid (zBK true da ea true da ea=0):=(by rw [H.out];exact zFW _);clear CS CT
      go_wp2
      go_ret;exact ⟨zA9 H'.out.symm,X2⟩
     ·go_wp2_with fail;refine (CT.out _ T2).mono ?_;rintro e w3 ⟨rfl,e3⟩
      go_wp2
      go_ret;exact ⟨zA9 H.out.symm,xt X2 e3⟩
    ·go_wp2_with fail;refine (CT.out _ T2).mono ?_;rintro e w3 ⟨rfl,e3⟩
     go_wp2
     go_ret;exact ⟨zA9 H.out.symm,xt X2 e3⟩
theorem zRL:layCompare_ren.f 106=40:=by kernel_rfl
theorem zT5 (a b:List UInt8) (w:World) :
  Calls Tryz.prog 40 #[sV a,sV b] w fun e w'=>e=.returned (iQ (Lib.compareBytes a b))/\w'=w:=by
 have h:=Any.strings_Compare layCompare ⟨a.toArray⟩ ⟨b.toArray⟩ w;rw [zRL] at h;exact h
theorem zS8 (a b:List UInt8) (w:World) :
  Calls Tryz.prog 96 #[sV a,sV b] w fun e w'=>e=.returned (iQ (Lib.compareBytes a b))/\w'=w:=by
 have h1:=zLU a b;have h2:=zLT a b
 rcases zJP a b with h | h | h
 all_goals
  rw [h] at h1 h2 ⊢;simp only [Int.reduceNeg,decide_true,decide_false,Int.reduceEq] at h1 h2;go_enter Tryz.func96,Tryz.ntmps96;go_wp2_with fail;go_ret;exact ⟨rfl,rfl⟩
def orR:List Int->Int
 | []=>0
 | a :: l=>if a=0 then orR l else a
theorem zII:∀ (l:List Int) (k:Nat),(∀ (j:Nat) (z:Int),j<k->l[j]?=some z->z=0)->orR l=orR (l.drop k)
 | _,0,_=>rfl
 | [],k+1,_=>by simp
 | a :: l,k+1,h=>by
  have ha:a=0:=h 0 a (by omega) rfl;rw [orR,if_pos ha,List.drop_succ_cons];exact zII l k fun j z hj hz=>h (j+1) z (by omega) (by simpa using hz)
theorem orI (l:List Int) (g cap:Nat) (w:World) (hl:l.length<=100) (V:Vec w g (l.map (iQ ·))) :
  Calls Tryz.prog 37 #[.slice (some ⟨g,0,none⟩) l.length cap] w fun e w'=>e=.returned (iQ (orR l))/\w'=w:=by
 obtain ⟨n,hn⟩:=nm (l.length);have HN:Hid (l.length=n):=hn;have HV:Hid (Vec w g (l.map (iQ ·))):=V;obtain ⟨R,hR⟩:=nm (orR l);have HR:Hid (orR l=R):=hR;rw [hR];rw [hn] at hl ⊢;clear hn V hR;go_enter Tryz.func37,Tryz.ntmps37;go_wp2_with fail
 go_loop [8] (fun i=>∃ k:Nat,k<=n/\i=.int .i64 k/\Hid (∀ (j:Nat) (z:Int),j<k->l[j]?=some z->z=0)) (fun i=>n - (intOf i).toNat)
 case atStart=>exact ⟨0,by omega,rfl,fun j t hj=>by omega⟩
 case round =>
  obtain ⟨k,hk,rfl,HA⟩:=hrel;by_cases hlt:k<n
  ·obtain ⟨z,hz⟩:∃ z,l[k]?=some z:=⟨_,List.getElem?_eq_getElem (by rw [HN.out];exact hlt)⟩;have a0:=(HV.out k (iQ z) (by rw [List.getElem?_map,hz];rfl)).1;have i2:(k:Int)<(n:Int):=by omega
   by_cases hp:z=0
   ·subst hp;have HA2:Hid (∀ (j:Nat) (z:Int),j<k+1->l[j]?=some z->z=0):=fun j t' hj h=>by
     rcases Nat.lt_or_ge j k with hjk | hjk
     ·exact HA.out j t' hjk h
     ·obtain rfl:j=k:=(by omega);rw [hz] at h;cases h;rfl
    clear HA hz;go_wp2_with fail
    go_round
    case rel=>exact ⟨k+1,by omega,by go_num,HA2⟩
    case measure=>simp [intOf];omega
   ·have HT:Hid (z=R):=by
     show _=_;rw [<- HR.out,zII l k HA.out];have:l.drop k=z :: l.drop (k+1):=by
      have hkl:k<l.length:=(List.getElem?_eq_some_iff.1 hz).1;rw [List.drop_eq_getElem_cons hkl];rw [List.getElem?_eq_getElem hkl] at hz;cases hz;rfl
     rw [this,orR,if_neg hp]
    clear HA hz;have hpb:(z != 0)=true:=(by simpa using hp);go_wp2_with fail;go_ret;exact ⟨congrArg (fun z=>Ending.returned (iQ z)) HT.out,rfl⟩
  ·obtain rfl:k=n:=by omega
   have HT:Hid (0=R):=by
    show _=_;rw [<- HR.out,zII l k HA.out,List.drop_eq_nil_of_le (by rw [HN.out];omega)];rfl
   clear HA;go_wp2_with fail;go_ret;exact ⟨congrArg (fun z=>Ending.returned (iQ z)) HT.out,rfl⟩
def cmpR (k:Int) (n:Bool) (d x:Int) (t:List UInt8) (k':Int) (n':Bool) (d' x':Int) (t':List UInt8):Int:=
 if k ≠ k' then (if k<k' then -1 else 1) else
 if k=1 then cmpI (sgn n d * 10 ^ (x - min x x').toNat) (sgn n' d' * 10 ^ (x' - min x x').toNat) else
 if k=2 then Lib.compareBytes (t.map upC) (t'.map upC) else if k=3 then Lib.compareBytes t t' else 0
theorem zLM {n:Bool} {d x:Int} (h:zA1 n d x=true):0<=d/\d<1000000000000000 /\ -300<=x/\x<=300:=by
 by_cases hd:d=0
 ·have:n=false/\x=0:=by simpa [zA1,hd] using h
  omega
 ·have:0<d/\d<1000000000000000/\¬ d % 10=0 /\ -300<=x/\x<=300:=by simpa [zA1,hd] using h
  omega
theorem zWG (k:Int) (n:Bool) (d x:Int) (t:List UInt8) (k':Int) (n':Bool) (d' x':Int) (t':List UInt8) (w:World)
  (p:Int) (q:Bool) (r s:Int) (u:List UInt8) (hv:zAR k n d x t k'=valV p q r s u) (gv:zA4 p q r s u=true) (lu:u.length<=2000000)
  (p':Int) (q':Bool) (r' s':Int) (u':List UInt8) (hv':zAR k' n' d' x' t' k=valV p' q' r' s' u') (gv':zA4 p' q' r' s' u'=true) (lu':u'.length<=2000000) :
  Calls Tryz.prog 42 #[valV k n d x t,valV k' n' d' x' t'] w fun e w'=>e=.returned (iQ (cmpR p q r s u p' q' r' s' u'))/\Ext w w':=by
 obtain ⟨R,hR⟩:=nm (cmpR p q r s u p' q' r' s' u');have HR0:Hid (cmpR p q r s u p' q' r' s' u'=R):=hR;rw [hR];clear hR;have X1:=x1 w (.cells #[iQ k,.bool n,iQ d,iQ x,sV t] 26);have B1:=zA5 w (valL k n d x t) 26;obtain ⟨wa,ha⟩:=nm (w.alloc (.cells #[iQ k,.bool n,iQ d,iQ x,sV t] 26));have X2:=x1 wa (.cells #[iQ k',.bool n',iQ d',iQ x',sV t'] 26);have B2:=zA5 wa (valL k' n' d' x' t') 26;obtain ⟨wb,hb⟩:=nm (wa.alloc (.cells #[iQ k',.bool n',iQ d',iQ x',sV t'] 26));have sa:wa.heap.size=w.heap.size+1:=by rw [<- ha,World.size_alloc]
 have sb:wb.heap.size=w.heap.size+1+1:=by rw [<- hb,World.size_alloc,sa]
 change Vec (w.alloc (.cells #[iQ k,.bool n,iQ d,iQ x,sV t] 26)) _ _ at B1;change Vec (wa.alloc (.cells #[iQ k',.bool n',iQ d',iQ x',sV t'] 26)) _ _ at B2;rw [ha] at X1 B1;rw [hb] at X2 B2;rw [sa] at B2;have B1:=B1.l X2;have X:=xt X1 X2;obtain ⟨a0,a1,a2,a3,a4⟩:=Vec.five B1;obtain ⟨c0,c1,c2,c3,c4⟩:=Vec.five B2;go_enter Tryz.func42,Tryz.ntmps42;go_wp2_with fail;clear ha hb sa sb a0 a1 a2 a3 a4 c0 c1 c2 c3 c4;refine (zW3 k n d x t k' n' d' x' t' wb).mono ?_;rintro e w1 ⟨rfl,e1⟩;rw [hv];obtain ⟨wz,hz⟩:=nm (w1.alloc (.cells #[iQ p,.bool q,iQ r,iQ s,sV u] 26));have Y:=x1 w1 (.cells #[iQ p,.bool q,iQ r,iQ s,sV u] 26);have Bx:=zA5 w1 (valL p q r s u) 26;change Vec (w1.alloc (.cells #[iQ p,.bool q,iQ r,iQ s,sV u] 26)) _ _ at Bx;rw [hz] at Y Bx;have C1:=(B1.l e1).l Y;have C2:=(B2.l e1).l Y;have XZ:=xt (xt X e1) Y;clear B1 B2;obtain ⟨a0,a1,a2,a3,a4⟩:=Vec.five C1;obtain ⟨c0,c1,c2,c3,c4⟩:=Vec.five C2;go_wp2_with fail;clear hz a0 a1 a2 a3 a4 c0 c1 c2 c3 c4;refine (zW3 k' n' d' x' t' k n d x t wz).mono ?_;rintro e w2 ⟨rfl,e2⟩;rw [hv'];obtain ⟨wu,hu⟩:=nm (w2.alloc (.cells #[iQ p',.bool q',iQ r',iQ s',sV u'] 26));have Y2:=x1 w2 (.cells #[iQ p',.bool q',iQ r',iQ s',sV u'] 26);have By:=zA5 w2 (valL p' q' r' s' u') 26;change Vec (w2.alloc (.cells #[iQ p',.bool q',iQ r',iQ s',sV u'] 26)) _ _ at By;rw [hu] at Y2 By;have Bx:=(Bx.l e2).l Y2;have XU:=xt (xt XZ e2) Y2;clear C1 C2 X XZ Y e1 e2 Y2 hv hv';obtain ⟨gx,hgx⟩:=nm (w1.heap.size);obtain ⟨gy,hgy⟩:=nm (w2.heap.size);rw [hgx] at Bx ⊢;rw [hgy] at By;obtain ⟨a0,a1,a2,a3,a4⟩:=Vec.five Bx;obtain ⟨c0,c1,c2,c3,c4⟩:=Vec.five By;by_cases hk:p=p'
 ·subst hk;by_cases h1:p=1
  ·subst h1;have HR:Hid (cmpI (sgn q r * 10 ^ (s - min s s').toNat) (sgn q' r' * 10 ^ (s' - min s s').toNat)=R):=by show _=_;rw [<- HR0.out];simp [cmpR]
   obtain ⟨b0,b1,b2,b3⟩:=zLM (zCK gv).1;obtain ⟨m0,m1,m2,m3⟩:=zLM (zCK gv').1;clear gv gv';go_wp2_with fail;refine (zNT q q' r s r' s' _ b0 b1 m0 m1 b2 b3 m2 m3).mono ?_;rintro e w3 ⟨rfl,e3⟩;go_wp2_with fail;go_ret;exact ⟨congrArg (fun z=>Ending.returned (iQ z)) HR.out,xt XU e3⟩
  ·by_cases h2:p=2
   ·subst h2;have HR:Hid (Lib.compareBytes (u.map upC) (u'.map upC)=R):=(by show _=_;rw [<- HR0.out];simp [cmpR]);clear gv gv' h1;go_wp2_with fail;go_region_held3 (fun w'=>w'.cell? ⟨gx,4,none⟩=some (sV u)/\w'.cell? ⟨gy,4,none⟩=some (sV u')) (go_keep)
     (first
      | (go_at_call_of 97 (sV u);refine (zWI u _ lu).mono ?_;rintro e w3 ⟨rfl,e3⟩;have X3:=xt (xd (xr _)) e3;have m3:=((Bx.l X3) 4 _ rfl).1;have n3:=((By.l X3) 4 _ rfl).1)
      | (go_at_call_of 97 (sV u');refine (zWI u' _ lu').mono ?_;rintro e w4 ⟨rfl,e4⟩;have X4:=xt X3 e4;have m4:=((Bx.l X4) 4 _ rfl).1;have n4:=((By.l X4) 4 _ rfl).1)
      | (go_at_call 96;refine (zS8 _ _ _).mono ?_;rintro e w5 ⟨rfl,rfl⟩))
    go_wp2_with fail;go_ret;exact ⟨congrArg (fun z=>Ending.returned (iQ z)) HR.out,xt XU X4⟩
   ·by_cases h3:p=3
    ·subst h3;have HR:Hid (Lib.compareBytes u u'=R):=(by show _=_;rw [<- HR0.out];simp [cmpR]);clear gv gv' h1 h2;go_wp2_with fail;refine (zS8 u u' _).mono ?_;rintro e w3 ⟨rfl,rfl⟩;go_wp2_with fail;go_ret;exact ⟨congrArg (fun z=>Ending.returned (iQ z)) HR.out,XU⟩
    ·have HR:Hid (0=R):=(by show _=_;rw [<- HR0.out];simp [cmpR,h1,h2,h3]);clear gv gv';go_wp2_with fail;go_ret;exact ⟨congrArg (fun z=>Ending.returned (iQ z)) HR.out,XU⟩
 ·by_cases hlt:p<p'
  ·have HR:Hid (-1=R):=by show _=_;rw [<- HR0.out];simp [cmpR,hk,hlt]
   clear gv gv';go_wp2_with fail;go_ret;exact ⟨congrArg (fun z=>Ending.returned (iQ z)) HR.out,XU⟩
  ·have HR:Hid (1=R):=by show _=_;rw [<- HR0.out];simp [cmpR,hk,hlt]
   clear gv gv';go_wp2_with fail;go_ret;exact ⟨congrArg (fun z=>Ending.returned (iQ z)) HR.out,XU⟩
def bk (k k':Int):Int:=if k ≠ 0 then k else if k'=1 then 1 else if k'=2 then 2 else if k'=3 then 3 else 0
def bt (k:Int) (t:List UInt8) (k':Int):List UInt8:=if k=0/\k'=3 then zAA else t
theorem zDA {k:Int} {n:Bool} {d x:Int} {t:List UInt8} (hg:zA4 k n d x t=true) (k':Int):zAR k n d x t k'=valV (bk k k') n d x (bt k t k')/\zA4 (bk k k') n d x (bt k t k')=true:=by
 by_cases h0:k=0
 ·subst h0;obtain ⟨rfl,rfl,rfl⟩:=zC0 hg (by decide);obtain rfl:=zCL hg;unfold zAR bk bt;by_cases h1:k'=1
  ·subst h1;exact ⟨rfl,by decide⟩
  ·by_cases h2:k'=2
   ·subst h2;exact ⟨rfl,by decide⟩
   ·by_cases h3:k'=3
    ·subst h3;exact ⟨rfl,by decide⟩
    ·simp [h1,h2,h3];decide
 ·unfold zAR bk bt;simp [h0,hg]
theorem zI6 {t:List UInt8} (k k':Int) (hl:t.length<=2000000):(bt k t k').length<=2000000:=by
 unfold bt
 split
 ·decide
 ·exact hl
theorem zV4 {k:Int} (k':Int) (h:k ≠ 4):bk k k' ≠ 4:=by
 unfold bk
 split
 ·exact h
 ·split
  ·decide
  ·split
   ·decide
   ·split <;> decide
def zA0 (k:Int) (n:Bool) (d x:Int) (t:List UInt8) (k':Int) (n':Bool) (d' x':Int) (t':List UInt8):Int:=
 if zA4 k n d x t=true/\zA4 k' n' d' x' t'=true/\k ≠ 4/\k' ≠ 4 then cmpR (bk k k') n d x (bt k t k') (bk k' k) n' d' x' (bt k' t' k) else 2
theorem zKV {u:List UInt8} (h:zE9 u=true):u.map upC=u:=by
 have:u=[84,82,85,69]\/u=[70,65,76,83,69]:=by simpa [zE9] using h
 rcases this with rfl | rfl <;> decide
theorem zTI {p:Int} {q:Bool} {r s:Int} {u:List UInt8} {p':Int} {q':Bool} {r' s':Int} {u':List UInt8} (g:zA4 p q r s u=true) (g':zA4 p' q' r' s' u'=true) (h4:p ≠ 4) :
  orR [cmpI p p',zBK q r s q' r' s',Lib.compareBytes (u.map upC) (u'.map upC)]=cmpR p q r s u p' q' r' s' u':=by
 by_cases hp:p=p'
 ·subst hp;have c0:cmpI p p=0:=by unfold cmpI;simp
  rw [orR,if_pos c0];by_cases h1:p=1
  ·subst h1;obtain ⟨ga,rfl⟩:=zCK g;obtain ⟨gb,rfl⟩:=zCK g';rw [zCP ga gb];simp [orR,cmpR,Lib.compareBytes];intro h;exact h.symm
  ·obtain ⟨rfl,rfl,rfl⟩:=zC0 g h1;obtain ⟨rfl,rfl,rfl⟩:=zC0 g' h1;have z0:zBK false 0 0 false 0 0=0:=by decide
   rw [orR,if_pos z0];have e:orR [Lib.compareBytes (u.map upC) (u'.map upC)]=Lib.compareBytes (u.map upC) (u'.map upC):=by
    unfold orR
    split
    ·next h=>rw [h];rfl
    ·rfl
   rw [e];by_cases h2:p=2
   ·subst h2;simp [cmpR]
   ·by_cases h3:p=3
    ·subst h3;have b1:zE9 u=true:=(by simpa [zA4,zCR] using g);have b2:zE9 u'=true:=(by simpa [zA4,zCR] using g');rw [zKV b1,zKV b2];simp [cmpR]
    ·by_cases h0:p=0
     ·subst h0;obtain rfl:=zCL g;obtain rfl:=zCL g';simp [cmpR,Lib.compareBytes]
     ·simp [zA4,h1,h2,h3,h0,h4] at g
 ·have c1:cmpI p p'=if p<p' then -1 else 1:=by
   unfold cmpI;by_cases hl:p<p'
   ·simp [hl]
   ·have:p'<p:=(by omega);simp [hl,this]
  have c2:cmpI p p' ≠ 0:=by rw [c1];split <;> decide
  rw [orR,if_neg c2,c1];simp [cmpR,hp]
end Go.Proofs.YtkadkfmidlhedaaGreatDoor

