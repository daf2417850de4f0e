/-
  Several texts in one: FrameB, DatN, DatP, DatA, FrameD, Frame, Vek, Sv1, Fa, Fe, Fk, FrameX, LibP, LibD.
-/
import Derived.Test.YtjlojlgdkfpcdaaGreatDoorRows
import Derived.Test.YtjlojlgdkfpcdaaGreatDoorMg0
import Derived.WalkKit
import Derived.ProofKit
import Derived.OpenShut
import Derived.WalkSmall
import Derived.Lib.SmallJoins
import Derived.Deep.DeepHandedRow
import Derived.Lib.LaidTab
import Derived.Stop.LaidErr
import Derived.Laws.IdiomStrings
import Derived.Deep.Strs
import Derived.Lib.ItoaNum
set_option maxRecDepth 100000
set_option maxHeartbeats 1000000
namespace Go.Proofs.YtjlojlgdkfpcdaaGreatDoor
open Go.ChangeShapes Go.WideShapes Go.ChangeAt Go.RowKit
theorem own:ownKnob Tryz.prog.godebug=none:=by kernel_rfl
theorem zSY:laidOutB Tryz.prog=true:=by kernel_rfl
theorem zIK {H:Type} {enc:TypeId × Value->H} {P:Program} (hl:laidOutB P=true) {W W':World} (bel:Below W.heap.size W W') :
  ∀ {ns:List String} {gs:List (DataW H)} {q:List MemPlace},(∀ n ∈ ns,∀ g t,P.globalNamed n=some g->(P.globals[g]?).map (·.type)=some t->P.readableRec t=true/\t<P.types.size) ->
   (∀ x ∈ q,x.block<W.heap.size)->DataW.TrodVars enc P W (fun _=>true) ns gs q->DataW.TrodVars enc P W' (fun b=>decide (b<W.heap.size)) ns gs q
 | [],[],_,_,_,h=>h
 | [],_ :: _,_,_,_,h=>h.elim
 | _ :: _,[],_,_,_,h=>h.elim
 | n :: ns,d :: ds,q,hr,hlt,h=>by
  obtain ⟨g,t,cs,fuel,p,r,h1,h2,h3,h4,h5,rfl⟩:=h;obtain ⟨r1,r2⟩:=hr n (by simp) g t h1 h2;have hg:g<W.heap.size:=by
   unfold World.var? at h3;simp only [h1,Option.bind_some] at h3;by_cases hk:g<W.heap.size
   ·exact hk
   ·rw [Array.getElem?_eq_none (by omega)] at h3;cases h3
  refine ⟨g,t,cs,fuel,p,r,h1,h2,var?_below bel h1 hg h3,?_,?_,rfl⟩
  ·exact DataW.trod_stays (kids_book hl r1) (book_sized r1) (fun h=>by cases h) ⟨r2,book_self t⟩ h4 (fun x hx=>bel.same (hlt x (by simp [hx]))) (fun x hx=>by simpa using hlt x (by simp [hx]))
  ·exact zIK hl bel (fun m hm=>hr m (by simp [hm])) (fun x hx=>hlt x (by simp [hx])) h5
theorem zA3 {H:Type} {enc:TypeId × Value->H} {P:Program} {w:World} {base:Nat} {sp:Nat->Bool} {held:Bool} {fuel:Nat} {t e:TypeId} {n:Nat} {cs:List Value} {ds:List (DataW H)} {p:List MemPlace}
  (ht:P.underlying t=some (.array n e)) (h:DataW.trod enc P w base sp held fuel t cs=some (.agg ds,p)) (i:Nat) (hi:i<n) (d:DataW H) (hd:ds[i]?=some d) :
  ∃ fuel' p',DataW.trod enc P w base sp held fuel' e ((cs.drop (i * P.cellsOf e)).take (P.cellsOf e))=some (d,p'):=by
 cases fuel with
 | zero=>simp [DataW.trod] at h
 | succ fuel =>
  simp only [DataW.trod,ht] at h
  split at h
  ·obtain ⟨xs,hm,hx⟩:=Option.map_eq_some_iff.1 h;obtain ⟨b,hb,hf⟩:=Lib.mapM_at hm i i (by simp [hi]);have e1:xs.map (·.1)=ds:=by
    have:=congrArg Prod.fst hx;simpa using this
   rw [<- e1,List.getElem?_map,hb] at hd;simp only [Option.map_some,Option.some.injEq] at hd;subst hd;exact ⟨fuel,b.2,hf⟩
  ·cases h
theorem zCU {H:Type} {enc:TypeId × Value->H} {P:Program} {w:World} {base:Nat} {sp:Nat->Bool} {held:Bool} {fuel:Nat} {t:TypeId} {fs:Array Field} {cs:List Value} {ds:List (DataW H)} {p:List MemPlace}
  (ht:P.underlying t=some (.struct fs)) (h:DataW.trod enc P w base sp held fuel t cs=some (.agg ds,p)) (i:Nat) (f:Field) (hf:fs.toList[i]?=some f) (d:DataW H) (hd:ds[i]?=some d) :
  ∃ fuel' p',DataW.trod enc P w base sp held fuel' f.type ((cs.drop f.offset).take (P.cellsOf f.type))=some (d,p'):=by
 cases fuel with
 | zero=>simp [DataW.trod] at h
 | succ fuel =>
  simp only [DataW.trod,ht] at h
  split at h
  ·obtain ⟨xs,hm,hx⟩:=Option.map_eq_some_iff.1 h;obtain ⟨b,hb,hf'⟩:=Lib.mapM_at hm i f hf;have e1:xs.map (·.1)=ds:=by
    have:=congrArg Prod.fst hx;simpa using this
   rw [<- e1,List.getElem?_map,hb] at hd;simp only [Option.map_some,Option.some.injEq] at hd;subst hd;exact ⟨fuel,b.2,hf'⟩
  ·cases h
end Go.Proofs.YtjlojlgdkfpcdaaGreatDoor

namespace Go.Proofs.YtjlojlgdkfpcdaaGreatDoor
theorem zOM (a : Int) (b : Int) : Int.tdiv a b = if 0 <= a then a / b else -((-a) / b) := by
  split
  · exact Int.tdiv_eq_ediv_of_nonneg ‹_›
  · have h : Int.tdiv a b = -Int.tdiv (-a) b := by rw [Int.neg_tdiv]; simp
    rw [h, Int.tdiv_eq_ediv_of_nonneg (by omega)]
theorem zOJ (a : Int) (b : Int) : Int.tmod a b = if 0 <= a then a % b else -((-a) % b) := by
  split
  · exact Int.tmod_eq_emod_of_nonneg ‹_›
  · have h : Int.tmod a b = -Int.tmod (-a) b := by rw [Int.neg_tmod]; simp
    rw [h, Int.tmod_eq_emod_of_nonneg (by omega)]
def zID (cal y : Int) : Bool := if cal = 1 then (decide (y % 4 = 0) && !decide (y % 100 = 0)) || decide (y % 400 = 0) else decide (y % 4 = 0)
def mtab (m : Int) : Int := if m = 2 then 28 else if m = 4 \/ m = 6 \/ m = 9 \/ m = 11 then 30 else 31
def mlen (cal y m : Int) : Int := mtab m + if m = 2 /\ zID cal y = true then 1 else 0
def zA4 (cal y : Int) : Int := y * 365 + (y - 1) / 4 + 1 + if cal = 1 then (y - 1) / 400 - (y - 1) / 100 else 0
def cum (cal y : Int) : Nat -> Int
  | 0 => 0
  | n + 1 => cum cal y n + mlen cal y ((n : Int) + 1)
def off (cal : Int) : Int := if cal = 1 then 730485 else 730487
theorem zO7 (cal y : Int) (n : Nat) : cum cal y (n + 1) = cum cal y n + mlen cal y ((n : Int) + 1) := rfl
theorem zE0 (cal y m : Int) : 28 <= mlen cal y m /\ mlen cal y m <= 31 := by
  unfold mlen mtab
  repeat' split
  all_goals omega
theorem zH8 (cal y : Int) {a b : Nat} (h : a <= b) : cum cal y a <= cum cal y b := by
  induction b with
  | zero => obtain rfl : a = 0 := by omega
            exact Int.le_refl _
  | succ n ih =>
    by_cases e : a = n + 1
    · subst e; exact Int.le_refl _
    · have := ih (by omega)
      have := zE0 cal y ((n : Int) + 1)
      simp only [cum]
      omega
theorem zTR (cal y : Int) : cum cal y 12 = 365 + if zID cal y = true then 1 else 0 := by
  by_cases h : zID cal y = true
  · simp [cum, mlen, mtab, h]
  · simp [cum, mlen, mtab, h]
theorem zGH (cal y : Int) (n : Nat) : 0 <= cum cal y n := by have := zH8 cal y (Nat.zero_le n); simpa [cum] using this
theorem cum_le (cal y : Int) {n : Nat} (h : n <= 12) : cum cal y n <= 366 := by
  have a := zH8 cal y h
  have b := zTR cal y
  split at b <;> omega
theorem zEV (cal y : Int) : zA4 cal (y + 1) = zA4 cal y + cum cal y 12 := by
  rw [zTR]
  unfold zA4 zID
  by_cases h : cal = 1
  · simp only [h, if_true]
    by_cases h4 : y % 4 = 0 <;> by_cases h1 : y % 100 = 0 <;> by_cases h2 : y % 400 = 0 <;> simp [h4, h1, h2] <;> omega
  · simp only [h, if_false]
    by_cases h4 : y % 4 = 0 <;> simp [h4] <;> omega
theorem zDQ (cal : Int) {a b : Int} (h : a <= b) : zA4 cal a <= zA4 cal b := by
  obtain ⟨n, rfl⟩ : ∃ n : Nat, b = a + n := ⟨(b - a).toNat, by omega⟩
  clear h
  induction n with
  | zero => simp
  | succ n ih =>
    have e : a + ((n + 1 : Nat) : Int) = (a + n) + 1 := by omega
    rw [e, zEV, zTR]
    split <;> omega
def IsDt (cal day y m d : Int) : Prop := 1 <= m /\ m <= 12 /\ 1 <= d /\ d <= mlen cal y m /\ zA4 cal y + cum cal y (m - 1).toNat + (d - 1) - off cal = day
def zG0 (cal y n : Int) : Prop := zA4 cal y <= n /\ n < zA4 cal (y + 1)
theorem zG0.one {cal y y' n : Int} (h : zG0 cal y n) (h' : zG0 cal y' n) : y = y' := by
  obtain ⟨a, b⟩ := h
  obtain ⟨c, d⟩ := h'
  rcases Int.lt_trichotomy y y' with k | k | k
  · have := zDQ cal (show y + 1 <= y' by omega); omega
  · exact k
  · have := zDQ cal (show y' + 1 <= y by omega); omega
theorem cum_in {cal y m d : Int} (h1 : 1 <= m) (h2 : m <= 12) (h3 : 1 <= d) (h4 : d <= mlen cal y m) : 0 <= cum cal y (m - 1).toNat + (d - 1) /\ cum cal y (m - 1).toNat + (d - 1) < cum cal y 12 := by
  have a := zGH cal y (m - 1).toNat
  have b := zH8 cal y (show (m - 1).toNat + 1 <= 12 by omega)
  have e : (((m - 1).toNat : Nat) : Int) + 1 = m := by omega
  rw [zO7, e] at b
  omega
theorem IsDt.holds {cal day y m d : Int} (h : IsDt cal day y m d) : zG0 cal y (day + off cal) := by
  obtain ⟨h1, h2, h3, h4, h5⟩ := h
  have := cum_in h1 h2 h3 h4
  unfold zG0
  rw [zEV]
  omega
theorem cum_one {cal y m d m' d' : Int} (h1 : 1 <= m) (h3 : 1 <= d) (h4 : d <= mlen cal y m) (g1 : 1 <= m') (g3 : 1 <= d') (g4 : d' <= mlen cal y m')
    (h : cum cal y (m - 1).toNat + (d - 1) = cum cal y (m' - 1).toNat + (d' - 1)) : m = m' /\ d = d' := by
  have aux : ∀ {m d m' d' : Int}, 1 <= m -> d <= mlen cal y m -> 1 <= d' -> m < m' -> cum cal y (m - 1).toNat + (d - 1) = cum cal y (m' - 1).toNat + (d' - 1) -> False := by
    intro m d m' d' a b c e f
    have b' := zH8 cal y (show (m - 1).toNat + 1 <= (m' - 1).toNat by omega)
    have e' : (((m - 1).toNat : Nat) : Int) + 1 = m := by omega
    simp only [cum, e'] at b'
    omega
  rcases Int.lt_trichotomy m m' with k | k | k
  · exact (aux h1 h4 g3 k h).elim
  · subst k; exact ⟨rfl, by omega⟩
  · exact (aux g1 g4 h3 k h.symm).elim
theorem IsDt.one {cal day y m d y' m' d' : Int} (h : IsDt cal day y m d) (h' : IsDt cal day y' m' d') : y = y' /\ m = m' /\ d = d' := by
  have e := h.holds.one h'.holds
  subst e
  obtain ⟨h1, _, h3, h4, h5⟩ := h
  obtain ⟨g1, _, g3, g4, g5⟩ := h'
  exact ⟨rfl, cum_one h1 h3 h4 g1 g3 g4 (by omega)⟩
end Go.Proofs.YtjlojlgdkfpcdaaGreatDoor

namespace Go.Proofs.YtjlojlgdkfpcdaaGreatDoor
open Go.RowKit
theorem xdN' {a b:World} (h:Ext a b) (n:Nat):Ext a (b.drewN n):=⟨h.os,h.tape,h.output,h.size,h.block⟩
theorem zNZ (a b:Int) (hb:0<b):(if a.tmod b ≠ 0/\a<0 then a.tdiv b - 1 else a.tdiv b)=a / b:=by
 rw [zOM,zOJ];have e:=Int.mul_ediv_add_emod a b;have e':=Int.mul_ediv_add_emod (-a) b;have m1:=Int.emod_nonneg a (show b ≠ 0 by omega);have m2:=Int.emod_lt_of_pos a hb;have n1:=Int.emod_nonneg (-a) (show b ≠ 0 by omega);have n2:=Int.emod_lt_of_pos (-a) hb;by_cases h:0<=a
 ·simp only [h,if_true];rw [if_neg (by omega)]
 ·simp only [h,if_false];by_cases k:(-a) % b=0
  ·rw [if_neg (by omega)];have:b * (a / b)+a % b = - (b * ((-a) / b)):=by omega
   have hd:b ∣ a:=by
    have:b ∣ -a:=Int.dvd_of_emod_eq_zero k;exact (Int.dvd_neg).1 this
   have : -((-a) / b)=a / b:=by rw [Int.neg_ediv_of_dvd hd];omega
   exact this
  ·rw [if_pos (by omega)];have h1:b * (-((-a) / b) - 1)<=a:=by
    have:b * (-((-a) / b) - 1) = -(b * ((-a) / b)) - b:=(by rw [Int.mul_sub,Int.mul_neg,Int.mul_one]);omega
   have h2:a<b * (-((-a) / b) - 1+1):=by
    have:b * (-((-a) / b) - 1+1) = -(b * ((-a) / b)):=(by rw [show -((-a) / b) - 1+1 = -((-a) / b) by omega,Int.mul_neg]);omega
   symm;exact Int.le_antisymm (Int.lt_add_one_iff.1 (Int.ediv_lt_of_lt_mul hb (by rw [Int.mul_comm];exact h2))) ((Int.le_ediv_iff_mul_le hb).2 (by rw [Int.mul_comm];exact h1))
theorem zLM {a b:Int} (hb:0<b) (a1 : -9223372036854775808<=a) (a2:a<=9223372036854775807) : -9223372036854775808<=a / b/\a / b<=9223372036854775807:=by
 refine ⟨(Int.le_ediv_iff_mul_le hb).2 ?_,?_⟩
 ·have:(-9223372036854775808:Int) * b <= -9223372036854775808 * 1:=Int.mul_le_mul_of_nonpos_left (by omega) (by omega);omega
 ·by_cases h:0<=a
  ·exact Int.le_trans (Int.ediv_le_self _ h) a2
  ·have:=Int.ediv_neg_of_neg_of_pos (show a<0 by omega) hb;omega
theorem zVU (a b:Int) (w:World) (hb:0<b) (a1 : -9223372036854775808<=a) (a2:a<=9223372036854775807) :
  Calls Tryz.prog 229 #[iQ a,iQ b] w fun e w'=>e=.returned (iQ (a / b))/\w'=w:=by
 have fl:=zNZ a b hb;have hf:=zLM hb a1 a2;obtain ⟨Q,hQ⟩:=nm (a / b);rw [hQ] at fl hf ⊢;clear hQ;go_enter Tryz.func229,Tryz.ntmps229
 go_wp2
 all_goals go_ret
 all_goals refine ⟨zA8 ?_,rfl⟩
 all_goals simp_all [wrap64]
 all_goals omega
theorem zQS (a b:Int):(a.tmod b == 0)=decide (a % b=0):=by
 have h:a.tmod b=0 ↔ a % b=0:=by rw [<- Int.dvd_iff_tmod_eq_zero,<- Int.dvd_iff_emod_eq_zero]
 by_cases k:a % b=0
 ·rw [h.2 k];simp [k]
 ·have:¬ a.tmod b=0:=fun e=>k (h.1 e);simp [k,this]
theorem leapI (cal y:Int) (w:World) :
  Calls Tryz.prog 230 #[iQ cal,iQ y] w fun e w'=>e=.returned (.bool (zID cal y))/\w'=w:=by
 go_enter Tryz.func230,Tryz.ntmps230
 go_wp2
 all_goals go_ret
 all_goals refine ⟨zA5 ?_,rfl⟩
 all_goals simp only [zQS] at *
 all_goals simp_all [zID]
 all_goals by_cases k4:y % 4=0 <;> by_cases k1:y % 100=0 <;> by_cases k2:y % 400=0 <;> simp_all <;> omega
theorem calI (cal:Int) (w:World) :
  Calls Tryz.prog 182 #[iQ cal] w fun e w'=>e=.returned (.bool (decide (cal=1\/cal=2)))/\w'=w:=by
 go_enter Tryz.func182,Tryz.ntmps182
 go_wp2
 all_goals go_ret
 all_goals refine ⟨zA5 ?_,rfl⟩
 all_goals by_cases h1:cal=1 <;> by_cases h2:cal=2 <;> simp_all
theorem dayI (n:Int) (w:World) :
  Calls Tryz.prog 128 #[iQ n] w fun e w'=>e=.returned (.bool (decide (-1000000<=n/\n<=1000000)))/\w'=w:=by
 go_enter Tryz.func128,Tryz.ntmps128
 go_wp2
 all_goals go_ret
 all_goals refine ⟨zA5 ?_,rfl⟩
 all_goals simp_all
 all_goals (intros;omega)
def zCJ (w:World):Prop:=∀ i:Nat,1<=i->i<=12->w.cell? ⟨6,i,none⟩=some (iQ (mtab i))
def Cals (w:World):Prop:=(w.cell? ⟨5,5,none⟩=some (iQ 400)/\w.cell? ⟨5,6,none⟩=some (iQ 146097)/\w.cell? ⟨5,7,none⟩=some (iQ 2000)/\w.cell? ⟨5,8,none⟩=some (iQ 1)/\w.cell? ⟨5,9,none⟩=some (iQ 1)) /\
 w.cell? ⟨5,10,none⟩=some (iQ 4)/\w.cell? ⟨5,11,none⟩=some (iQ 1461)/\w.cell? ⟨5,12,none⟩=some (iQ 1999)/\w.cell? ⟨5,13,none⟩=some (iQ 12)/\w.cell? ⟨5,14,none⟩=some (iQ 19)
theorem zCJ.l {w w1:World} (h:zCJ w) (hb:Ext w w1):zCJ w1:=fun i h0 hi=>cell_later hb (h i h0 hi)
theorem Cals.l {w w1:World} (h:Cals w) (hb:Ext w w1):Cals w1:=by
 obtain ⟨⟨a,b,c,d,e⟩,f,g,i,j,k⟩:=h;exact ⟨⟨cell_later hb a,cell_later hb b,cell_later hb c,cell_later hb d,cell_later hb e⟩,cell_later hb f,cell_later hb g,cell_later hb i,cell_later hb j,cell_later hb k⟩
abbrev dateV (y m d:Int):Value:=.agg #[iQ y,iQ m,iQ d]
theorem mlenI (cal y m:Int) (w:World) (h1:1<=m) (h2:m<=12) (hM:zCJ w) :
  Calls Tryz.prog 217 #[iQ cal,iQ y,iQ m] w fun e w'=>e=.returned (iQ (mlen cal y m))/\w'=w:=by
 by_cases e2:m=2
 ·subst e2;have ct:=hM 2 (by omega) (by omega);clear hM;go_enter Tryz.func217,Tryz.ntmps217;go_wp2_with (go_at_call 230;refine (leapI _ _ _).mono ?_;rintro e w' ⟨rfl,rfl⟩)
  all_goals go_ret
  all_goals refine ⟨zA8 ?_,rfl⟩
  all_goals simp_all [mlen,mtab,wrap64]
 ·obtain ⟨k,rfl⟩:∃ k:Nat,m=k:=⟨m.toNat,by omega⟩;have ct:=hM k (by omega) (by omega);clear hM;have h3:(k:Int)<13:=by omega
  go_enter Tryz.func217,Tryz.ntmps217;go_wp2_with (go_at_call 230;refine (leapI _ _ _).mono ?_;rintro e w' ⟨rfl,rfl⟩)
  all_goals go_ret
  all_goals refine ⟨zA8 ?_,rfl⟩
  all_goals simp [mlen,e2]
theorem zGJ {cal y:Int} (y0 : -1000000<=y) (y1:y<=1000000) : -400000000<=zA4 cal y/\zA4 cal y<=400000000:=by
 unfold zA4
 split <;> omega
theorem zU2 (cal y:Int) (w:World) (y0 : -1000000<=y) (y1:y<=1000000) :
  Calls Tryz.prog 216 #[iQ cal,iQ y] w fun e w'=>e=.returned (iQ (zA4 cal y))/\w'=w:=by
 have ew:wrap64 (y - 1)=y - 1:=by unfold wrap64;omega
 by_cases h:cal=1
 ·subst h;have e:zA4 1 y=y * 365+(y - 1) / 4+1+((y - 1) / 400 - (y - 1) / 100):=by simp [zA4]
  rw [e];clear e;go_enter Tryz.func216,Tryz.ntmps216;go_wp2_with (go_at_call 229;refine (zVU _ _ _ (by omega) (by omega) (by omega)).mono ?_;rintro e w' ⟨rfl,rfl⟩)
  all_goals go_ret
  all_goals refine ⟨zA8 ?_,rfl⟩
  all_goals first | omega | (simp only [wrap64];omega)
 ·have e:zA4 cal y=y * 365+(y - 1) / 4+1:=by simp [zA4,h]
  rw [e];clear e;go_enter Tryz.func216,Tryz.ntmps216;go_wp2_with (go_at_call 229;refine (zVU _ _ _ (by omega) (by omega) (by omega)).mono ?_;rintro e w' ⟨rfl,rfl⟩)
  all_goals go_ret
  all_goals refine ⟨zA8 ?_,rfl⟩
  all_goals first | omega | (simp only [wrap64];omega)
end Go.Proofs.YtjlojlgdkfpcdaaGreatDoor

namespace Go.Proofs.YtjlojlgdkfpcdaaGreatDoor
open Go.ChangeShapes Go.WideShapes Go.ChangeAt Go.RowKit
theorem zMH:Tryz.prog.globalNamed "loop.example/g00025/impl.monthLengths" = some 6:=by kernel_rfl
theorem zHW:(Tryz.prog.globals[6]?).map (·.type)=some 224:=by kernel_rfl
theorem zSP {rest:List (String × DataW Unit)} {W:World} (h:laidMet Tryz.prog (("loop.example/g00025/impl.monthLengths", Rows.laid_loop_example_g00025_impl_monthLengths) :: rest) W):zCJ W:=by
 have t:Lib.TabIs Tryz.prog W "loop.example/g00025/impl.monthLengths" .i64 [0,31,28,31,30,31,30,31,31,30,31,30,31]:=
  Lib.tabIs_of_head (rest:=rest) zMH zHW Tryz.underlying224 Tryz.underlying3 (by kernel_rfl) (by kernel_rfl) h
 intro i h0 hi;have e:∀ i:Nat,i<13->1<=i->([0,31,28,31,30,31,30,31,31,30,31,30,31]:List Int).getD i 0=mtab (i:Int):=by decide +kernel
 rw [<- e i (by omega) h0];exact t.cell zMH i (by show i<13;omega)
theorem zHP:∀ g t,Tryz.prog.globalNamed "loop.example/g00025/impl.monthLengths" = some g->(Tryz.prog.globals[g]?).map (·.type)=some t->Tryz.prog.readableRec t=true/\t<Tryz.prog.types.size:=by
 intro g t hg ht;obtain rfl:=Option.some.inj (zMH.symm.trans hg);obtain rfl:=Option.some.inj (zHW.symm.trans ht);exact ⟨by kernel_rfl,of_decide_eq_true (by kernel_rfl)⟩
theorem gCals:Tryz.prog.globalNamed "loop.example/g00025/impl.calendars" = some 5:=by kernel_rfl
theorem zLG:(Tryz.prog.globals[5]?).map (·.type)=some 217:=by kernel_rfl
theorem calCells:Tryz.prog.cellsOf 216=5:=by kernel_rfl
theorem zTQ:Tryz.prog.cellsOf 121=3:=by kernel_rfl
theorem zFV:Tryz.prog.cellsOf 3=1:=by kernel_rfl
theorem zQ5:∃ fs:Array Field,Tryz.prog.underlying 216=some (.struct fs)/\∃ f0 f1 f2,fs.toList[0]?=some f0/\fs.toList[1]?=some f1/\fs.toList[2]?=some f2/\(f0.type=3/\f0.offset=0)/\(f1.type=3/\f1.offset=1)/\(f2.type=121/\f2.offset=2):=
 ⟨_,Tryz.underlying216,_,_,_,rfl,rfl,rfl,⟨rfl,rfl⟩,⟨rfl,rfl⟩,⟨rfl,rfl⟩⟩
theorem zMQ:∃ fs:Array Field,Tryz.prog.underlying 121=some (.struct fs)/\∃ f0 f1 f2,fs.toList[0]?=some f0/\fs.toList[1]?=some f1/\fs.toList[2]?=some f2/\(f0.type=3/\f0.offset=0)/\(f1.type=3/\f1.offset=1)/\(f2.type=3/\f2.offset=2):=
 ⟨_,Tryz.underlying121,_,_,_,rfl,rfl,rfl,⟨rfl,rfl⟩,⟨rfl,rfl⟩,⟨rfl,rfl⟩⟩
theorem zFT {H:Type} {enc:TypeId × Value->H} {w:World} {base:Nat} {sp:Nat->Bool} {held:Bool} {fuel:Nat} {cs:List Value} {z:Int} {p:List MemPlace} (o:Nat)
  (h:DataW.trod enc Tryz.prog w base sp held fuel 3 ((cs.drop o).take 1)=some (.lit (.int .i64 z),p)):cs[o]?=some (iQ z):=by
 obtain ⟨n,hc,hx,_⟩:=DataW.trod_int Tryz.underlying3 h;simp only [Prod.mk.injEq,DataW.lit.injEq,Lit.int.injEq,true_and] at hx;have:=congrArg (·[0]?) hc;simp only [List.getElem?_take,List.getElem?_drop,List.getElem?_cons_zero] at this;simpa [hx.1] using this
theorem zPY {H:Type} {enc:TypeId × Value->H} {w:World} {base:Nat} {sp:Nat->Bool} {held:Bool} {fuel:Nat} {cs:List Value} {a b c:Int} {p:List MemPlace}
  (h:DataW.trod enc Tryz.prog w base sp held fuel 121 cs=some (.agg [.lit (.int .i64 a),.lit (.int .i64 b),.lit (.int .i64 c)],p)):cs[0]?=some (iQ a)/\cs[1]?=some (iQ b)/\cs[2]?=some (iQ c):=by
 obtain ⟨fs,ht,f0,f1,f2,e0,e1,e2,⟨t0,o0⟩,⟨t1,o1⟩,⟨t2,o2⟩⟩:=zMQ;obtain ⟨_,_,k0⟩:=zCU ht h 0 f0 e0 _ rfl;obtain ⟨_,_,k1⟩:=zCU ht h 1 f1 e1 _ rfl;obtain ⟨_,_,k2⟩:=zCU ht h 2 f2 e2 _ rfl;rw [t0,o0,zFV] at k0;rw [t1,o1,zFV] at k1;rw [t2,o2,zFV] at k2;exact ⟨zFT 0 k0,zFT 1 k1,zFT 2 k2⟩
theorem zLP {H:Type} {enc:TypeId × Value->H} {w:World} {base:Nat} {sp:Nat->Bool} {held:Bool} {fuel:Nat} {cs:List Value} {y z a b c:Int} {p:List MemPlace}
  (h:DataW.trod enc Tryz.prog w base sp held fuel 216 cs=some (.agg [.lit (.int .i64 y),.lit (.int .i64 z),.agg [.lit (.int .i64 a),.lit (.int .i64 b),.lit (.int .i64 c)]],p)) :
  cs[0]?=some (iQ y)/\cs[1]?=some (iQ z)/\cs[2]?=some (iQ a)/\cs[3]?=some (iQ b)/\cs[4]?=some (iQ c):=by
 obtain ⟨fs,ht,f0,f1,f2,e0,e1,e2,⟨t0,o0⟩,⟨t1,o1⟩,⟨t2,o2⟩⟩:=zQ5;obtain ⟨_,_,k0⟩:=zCU ht h 0 f0 e0 _ rfl;obtain ⟨_,_,k1⟩:=zCU ht h 1 f1 e1 _ rfl;obtain ⟨_,_,k2⟩:=zCU ht h 2 f2 e2 _ rfl;rw [t0,o0,zFV] at k0;rw [t1,o1,zFV] at k1;rw [t2,o2,zTQ] at k2;obtain ⟨d0,d1,d2⟩:=zPY k2;simp only [List.getElem?_take,List.getElem?_drop] at d0 d1 d2;exact ⟨zFT 0 k0,zFT 1 k1,by simpa using d0,by simpa using d1,by simpa using d2⟩
theorem cals_of {rest:List (String × DataW Unit)} {W:World} (h:laidMet Tryz.prog (("loop.example/g00025/impl.calendars", Rows.laid_loop_example_g00025_impl_calendars) :: rest) W):Cals W:=by
 obtain ⟨ps,⟨g',t',cs,fuel,p,q,hg',ht',hvar,hd,_,_⟩,_⟩:=h;obtain rfl:=Option.some.inj (gCals.symm.trans hg');obtain rfl:=Option.some.inj (zLG.symm.trans ht');obtain ⟨_,_,k1⟩:=zA3 Tryz.underlying217 hd 1 (by decide) _ rfl;obtain ⟨_,_,k2⟩:=zA3 Tryz.underlying217 hd 2 (by decide) _ rfl;rw [calCells] at k1 k2;obtain ⟨a0,a1,a2,a3,a4⟩:=zLP k1;obtain ⟨b0,b1,b2,b3,b4⟩:=zLP k2;simp only [List.getElem?_take,List.getElem?_drop] at a0 a1 a2 a3 a4 b0 b1 b2 b3 b4;have C:=fun i v (h:cs[i]?=some v)=>(World.var?_cell gCals hvar i).trans (by simpa using h);exact ⟨⟨C 5 _ (by simpa using a0),C 6 _ (by simpa using a1),C 7 _ (by simpa using a2),C 8 _ (by simpa using a3),C 9 _ (by simpa using a4)⟩,C 10 _ (by simpa using b0),C 11 _ (by simpa using b1),C 12 _ (by simpa using b2),C 13 _ (by simpa using b3),C 14 _ (by simpa using b4)⟩
theorem zKE:∀ g t,Tryz.prog.globalNamed "loop.example/g00025/impl.calendars" = some g->(Tryz.prog.globals[g]?).map (·.type)=some t->Tryz.prog.readableRec t=true/\t<Tryz.prog.types.size:=by
 intro g t hg ht;obtain rfl:=Option.some.inj (gCals.symm.trans hg);obtain rfl:=Option.some.inj (zLG.symm.trans ht);exact ⟨by kernel_rfl,of_decide_eq_true (by kernel_rfl)⟩
end Go.Proofs.YtjlojlgdkfpcdaaGreatDoor

namespace Go.Proofs.YtjlojlgdkfpcdaaGreatDoor
open Go.ChangeShapes Go.WideShapes Go.ChangeAt Go.RowKit
theorem gTens:Tryz.prog.globalNamed "loop.example/g00025/impl.tens" = some 1:=by kernel_rfl
theorem zLE:(Tryz.prog.globals[1]?).map (·.type)=some 148:=by kernel_rfl
theorem tens_of {rest:List (String × DataW Unit)} {W:World} (h:laidMet Tryz.prog (("loop.example/g00025/impl.tens", Rows.laid_loop_example_g00025_impl_tens) :: rest) W):Tens W:=by
 have t:Lib.TabIs Tryz.prog W "loop.example/g00025/impl.tens" .u64 [1,10,100,1000,10000,100000,1000000,10000000,100000000,1000000000,10000000000,100000000000,1000000000000,10000000000000,100000000000000,1000000000000000,10000000000000000,100000000000000000,1000000000000000000,10000000000000000000]:=
  Lib.tabIs_of_head (rest:=rest) gTens zLE Tryz.underlying148 Tryz.underlying45 (by kernel_rfl) (by kernel_rfl) h
 intro i hi;have e:∀ i:Nat,i<20->([1,10,100,1000,10000,100000,1000000,10000000,100000000,1000000000,10000000000,100000000000,1000000000000,10000000000000,100000000000000,1000000000000000,10000000000000000,100000000000000000,1000000000000000000,10000000000000000000]:List Int).getD i 0=((10 ^ i:Nat):Int):=by decide +kernel
 rw [<- e i hi];exact t.cell gTens i hi
theorem zIA:∀ g t,Tryz.prog.globalNamed "loop.example/g00025/impl.tens" = some g->(Tryz.prog.globals[g]?).map (·.type)=some t->Tryz.prog.readableRec t=true/\t<Tryz.prog.types.size:=by
 intro g t hg ht;obtain rfl:=Option.some.inj (gTens.symm.trans hg);obtain rfl:=Option.some.inj (zLE.symm.trans ht);exact ⟨by kernel_rfl,of_decide_eq_true (by kernel_rfl)⟩
end Go.Proofs.YtjlojlgdkfpcdaaGreatDoor

namespace Go.Proofs.YtjlojlgdkfpcdaaGreatDoor
open Go.RowKit
def Vec (w:World) (b:Nat) (l:List Value):Prop:=∀ i v,l[i]?=some v->w.cell? ⟨b,i,none⟩=some v/\w.frozen? ⟨b,i,none⟩=false
theorem vC3 {w:World} {b:Nat} {v0 v1 v2:Value} {l:List Value} (h:Vec w b (v0 :: v1 :: v2 :: l)):w.cell? ⟨b,0,none⟩=some v0/\w.cell? ⟨b,1,none⟩=some v1/\w.cell? ⟨b,2,none⟩=some v2:=
 ⟨(h 0 _ rfl).1,(h 1 _ rfl).1,(h 2 _ rfl).1⟩
theorem vF3 {w:World} {b:Nat} {v0 v1 v2:Value} {l:List Value} (h:Vec w b (v0 :: v1 :: v2 :: l)):w.frozen? ⟨b,0,none⟩=false/\w.frozen? ⟨b,1,none⟩=false/\w.frozen? ⟨b,2,none⟩=false:=
 ⟨(h 0 _ rfl).2,(h 1 _ rfl).2,(h 2 _ rfl).2⟩
theorem vC4 {w:World} {b:Nat} {v0 v1 v2 v3:Value} {l:List Value} (h:Vec w b (v0 :: v1 :: v2 :: v3 :: l)):w.cell? ⟨b,0,none⟩=some v0/\w.cell? ⟨b,1,none⟩=some v1/\w.cell? ⟨b,2,none⟩=some v2/\w.cell? ⟨b,3,none⟩=some v3:=
 ⟨(h 0 _ rfl).1,(h 1 _ rfl).1,(h 2 _ rfl).1,(h 3 _ rfl).1⟩
theorem vC5 {w:World} {b:Nat} {v0 v1 v2 v3 v4:Value} {l:List Value} (h:Vec w b (v0 :: v1 :: v2 :: v3 :: v4 :: l)):w.cell? ⟨b,0,none⟩=some v0/\w.cell? ⟨b,1,none⟩=some v1/\w.cell? ⟨b,2,none⟩=some v2/\w.cell? ⟨b,3,none⟩=some v3/\w.cell? ⟨b,4,none⟩=some v4:=
 ⟨(h 0 _ rfl).1,(h 1 _ rfl).1,(h 2 _ rfl).1,(h 3 _ rfl).1,(h 4 _ rfl).1⟩
theorem vC9 {w:World} {b:Nat} {v0 v1 v2 v3 v4 v5 v6 v7 v8:Value} {l:List Value} (h:Vec w b (v0 :: v1 :: v2 :: v3 :: v4 :: v5 :: v6 :: v7 :: v8 :: l)):w.cell? ⟨b,0,none⟩=some v0/\w.cell? ⟨b,1,none⟩=some v1/\w.cell? ⟨b,2,none⟩=some v2/\w.cell? ⟨b,3,none⟩=some v3/\w.cell? ⟨b,4,none⟩=some v4/\w.cell? ⟨b,5,none⟩=some v5/\w.cell? ⟨b,6,none⟩=some v6/\w.cell? ⟨b,7,none⟩=some v7/\w.cell? ⟨b,8,none⟩=some v8:=
 ⟨(h 0 _ rfl).1,(h 1 _ rfl).1,(h 2 _ rfl).1,(h 3 _ rfl).1,(h 4 _ rfl).1,(h 5 _ rfl).1,(h 6 _ rfl).1,(h 7 _ rfl).1,(h 8 _ rfl).1⟩
theorem Vec.l {w w1:World} {b:Nat} {l:List Value} (h:Vec w b l) (hb:Ext w w1):Vec w1 b l:=fun i v hi=>⟨cell_later hb (h i v hi).1,zAP hb (h i v hi).1 (h i v hi).2⟩
theorem Vec.far {w:World} {b:Nat} {l:List Value} (h:Vec w b l) {p:Addr} (hp:p.block ≠ b) (u:Value):Vec (w.setCell p u) b l:=fun i v hi=>by
 refine ⟨?_,by rw [World.frozen?_setCell];exact (h i v hi).2⟩;rw [World.cell?_setCell_other _ _ _ _ (fun e=>hp (congrArg Addr.block e))];exact (h i v hi).1
theorem Vec.put {w:World} {b:Nat} {l:List Value} (h:Vec w b l) (i:Nat) (hi:i<l.length) (u:Value):Vec (w.setCell ⟨b,i,none⟩ u) b (l.set i u):=fun j v hj=>by
 refine ⟨?_,?_⟩
 ·by_cases e:j=i
  ·subst e;rw [List.getElem?_set_self hi] at hj;cases hj;exact World.cell?_setCell_same' _ _ _ (by rw [(h j l[j] (List.getElem?_eq_getElem hi)).1];rfl)
  ·rw [List.getElem?_set_ne (fun q=>e q.symm)] at hj;rw [World.cell?_setCell_other _ _ _ _ (fun q=>e (congrArg Addr.off q).symm)];exact (h j v hj).1
 ·rw [World.frozen?_setCell];by_cases e:j=i
  ·subst e;exact (h j l[j] (List.getElem?_eq_getElem hi)).2
  ·rw [List.getElem?_set_ne (fun q=>e q.symm)] at hj;exact (h j v hj).2
def set4 (w:World) (b o:Nat) (u0 u1 u2 u3:Value):World:=(((w.setCell ⟨b,o,none⟩ u0).setCell ⟨b,o+1,none⟩ u1).setCell ⟨b,o+2,none⟩ u2).setCell ⟨b,o+3,none⟩ u3
theorem Vec.put4 {w:World} {b:Nat} {v0 v1 v2 v3:Value} (h:Vec w b [v0,v1,v2,v3]) (u0 u1 u2 u3:Value):Vec (set4 w b 0 u0 u1 u2 u3) b [u0,u1,u2,u3]:=
 (((h.put 0 (by simp) u0).put 1 (by simp) u1).put 2 (by simp) u2).put 3 (by simp) u3
theorem zDM {s:ByteArray} {l:List UInt8} (h:s.data.toList=l):s.size=l.length:=by
 rw [<- h,Array.length_toList];rfl
theorem zVZ {l:List UInt8} {i:Nat} (h:i<l.length):l.drop i=l.getD i 0 :: l.drop (i+1):=by
 rw [List.drop_eq_getElem_cons h];simp [h]
theorem zD9 {s:ByteArray} {l:List UInt8} (h:s.data.toList=l) {p:Nat} (hp:p<s.size):(s[p]'hp)=l.getD p 0:=by
 subst h;simp only [ByteArray.getElem_eq_getElem_data];have hp':p<s.data.size:=hp;simp only [List.getD,Array.getElem?_toList];rw [Array.getElem?_eq_getElem hp'];rfl
theorem zQW {l:List UInt8} {i:Nat} (h:i<l.length):l.take (i+1)=l.take i++[l.getD i 0]:=by
 rw [List.take_add_one];simp [h]
abbrev sV (l:List UInt8):Value:=.string ⟨l.toArray⟩
theorem zA2 (w:World) (l:List Value) (t:TypeId):Vec (w.alloc (.cells l.toArray t)) w.heap.size l:=by
 intro i v hi;have hb:=heap_alloc_new w (.cells l.toArray t);refine ⟨?_,?_⟩
 ·unfold World.cell?;simp only [hb];simpa using hi
 ·unfold World.frozen?;simp only [hb];simp
theorem zC7 (w:World) (l:List Value) (t:TypeId):∃ wa,w.alloc (.cells l.toArray t)=wa/\Ext w wa/\Vec wa w.heap.size l/\wa.heap.size=w.heap.size+1:=
 ⟨_,rfl,x1 w _,zA2 w l t,World.size_alloc _ _⟩
def zCN (c:UInt8):Bool:=decide (32<=c.toNat/\c.toNat<=126)
def zBW (l:List UInt8):Bool:=l.all zCN
def zE4 (m:Nat) (l:List UInt8):Bool:=l.all zCN && decide (l.length<=m)
theorem zIT (N:Int) (q:Bool) (w:World) (h:(decide (32<=N) && decide (N<=126))=q):Calls Tryz.prog 121 #[.int .u8 N] w fun e w'=>e=.returned (.bool q)/\w'=w:=by
 subst h;by_cases h1:32<=N
 ·by_cases h2:N<=126
  ·go_enter Tryz.func121,Tryz.ntmps121;go_wp2_with fail;go_ret;exact ⟨zA5 (by simp [h1,h2]),rfl⟩
  ·go_enter Tryz.func121,Tryz.ntmps121;go_wp2_with fail;go_ret;exact ⟨zA5 (by simp;omega),rfl⟩
 ·go_enter Tryz.func121,Tryz.ntmps121;go_wp2_with fail;go_ret;exact ⟨zA5 (by simp;omega),rfl⟩
theorem plainI (l:List UInt8) (w:World) (hl:l.length<=2000000):Calls Tryz.prog 67 #[sV l] w fun e w'=>e=.returned (.bool (zBW l))/\w'=w:=by
 obtain ⟨s,hs⟩:∃ s:ByteArray,(⟨l.toArray⟩:ByteArray)=s:=⟨_,rfl⟩;have hsl:s.data.toList=l:=by rw [<- hs]
 have hsz:=zDM hsl;show Calls Tryz.prog 67 #[.string ⟨l.toArray⟩] w _;rw [hs];clear hs;obtain ⟨n,hn⟩:=nm (l.length);have HN:=hid hn;have HS:=hid hsl;rw [hn] at hl hsz;clear hn hsl;go_enter Tryz.func67,Tryz.ntmps67;go_wp2_with fail
 go_loop [6] (fun i=>∃ k:Nat,k<=n/\i=.int .i64 k/\Hid ((l.take k).all zCN=true)) (fun i=>n - (intOf i).toNat)
 case atStart=>exact ⟨0,by omega,rfl,by show _=_;simp⟩
 case round =>
  obtain ⟨k,hk,rfl,HA⟩:=hrel;by_cases hlt:k<n
  ·have hks:k<s.size:=by omega
   have hb0:=zD9 HS.out hks;have htk:=zQW (l:=l) (i:=k) (by rw [HN.out];exact hlt);obtain ⟨c,hcc⟩:=nm (l.getD k 0);rw [hcc] at hb0 htk;have hb:((s[k]'hks).toNat:Int)=(c.toNat:Int):=by rw [hb0]
   have i2:(k:Int)<(n:Int):=by omega
   by_cases hc:zCN c=true
   ·have hc':32<=c.toNat/\c.toNat<=126:=(by simpa [zCN] using hc);have HA2:Hid ((l.take (k+1)).all zCN=true):=by
     show _=_;rw [htk,List.all_append,HA.out,List.all_cons,hc];rfl
    obtain ⟨N,hN⟩:∃ N:Int,(c.toNat:Int)=N:=⟨_,rfl⟩;rw [hN] at hb;have n1:32<=N:=(by omega);have n2:N<=126:=(by omega);have PB:(decide (32<=N) && decide (N<=126))=true:=(by simp;omega);clear hN hc hc' hb0 htk hcc HA;go_wp2_with (go_at_call 121;refine (zIT N _ _ PB).mono ?_;rintro e w' ⟨rfl,rfl⟩)
    go_round
    case rel=>exact ⟨k+1,by omega,by go_num,HA2⟩
    case measure=>simp [intOf];omega
   ·have HF:Hid (zBW l=false):=by
     show _=_;have hm:c ∈ l:=by
      have:c ∈ l.take (k+1):=(by rw [htk];simp);exact List.mem_of_mem_take this
     have hf:l.all zCN=false:=by
      cases hq:l.all zCN with
      | false=>rfl
      | true=>exact absurd ((List.all_eq_true.1 hq) c hm) hc
     unfold zBW;rw [hf]
    have hc':c.toNat<32\/126<c.toNat:=by
     have:¬ (32<=c.toNat/\c.toNat<=126):=(by simpa [zCN] using hc);omega
    obtain ⟨N,hN⟩:∃ N:Int,(c.toNat:Int)=N:=⟨_,rfl⟩;rw [hN] at hb;have n1:N<32\/126<N:=(by omega);have PB:(decide (32<=N) && decide (N<=126))=false:=(by simp;omega);clear hN hc hc' hb0 htk hcc HA;go_wp2_with (go_at_call 121;refine (zIT N _ _ PB).mono ?_;rintro e w' ⟨rfl,rfl⟩);go_ret;exact ⟨zA5 (by rw [HF.out]),rfl⟩
  ·obtain rfl:k=n:=by omega
   have HT:Hid (zBW l=true):=by
    show _=_;have h1:=HA.out;rw [List.take_of_length_le (by rw [HN.out];omega)] at h1;exact h1
   clear HA;go_wp2_with fail;go_ret;exact ⟨zA5 (by rw [HT.out]),rfl⟩
theorem printS (m:Nat) (l:List UInt8) (w:World) (hl:l.length<=2000000):Calls Tryz.prog 77 #[sV l,iQ (m:Int)] w fun e w'=>e=.returned (.bool (zE4 m l))/\w'=w:=by
 obtain ⟨s,hs⟩:∃ s:ByteArray,(⟨l.toArray⟩:ByteArray)=s:=⟨_,rfl⟩;have hsl:s.data.toList=l:=by rw [<- hs]
 have hsz:=zDM hsl;show Calls Tryz.prog 77 #[.string ⟨l.toArray⟩,iQ (m:Int)] w _;rw [hs];clear hs;obtain ⟨n,hn⟩:=nm (l.length);have HN:=hid hn;have HS:=hid hsl;rw [hn] at hl hsz;clear hn hsl;go_enter Tryz.func77,Tryz.ntmps77;go_wp2_with fail
 go_loop [5] (fun i=>∃ k:Nat,k<=n/\i=.int .i64 k/\Hid ((l.take k).all zCN=true)) (fun i=>n - (intOf i).toNat)
 case atStart=>exact ⟨0,by omega,rfl,by show _=_;simp⟩
 case round =>
  obtain ⟨k,hk,rfl,HA⟩:=hrel;by_cases hlt:k<n
  ·have hks:k<s.size:=by omega
   have hb0:=zD9 HS.out hks;have htk:=zQW (l:=l) (i:=k) (by rw [HN.out];exact hlt);obtain ⟨c,hcc⟩:=nm (l.getD k 0);rw [hcc] at hb0 htk;have hb:((s[k]'hks).toNat:Int)=(c.toNat:Int):=by rw [hb0]
   have i2:(k:Int)<(n:Int):=by omega
   by_cases hc:zCN c=true
   ·have hc':32<=c.toNat/\c.toNat<=126:=(by simpa [zCN] using hc);have HA2:Hid ((l.take (k+1)).all zCN=true):=by
     show _=_;rw [htk,List.all_append,HA.out,List.all_cons,hc];rfl
    obtain ⟨N,hN⟩:∃ N:Int,(c.toNat:Int)=N:=⟨_,rfl⟩;rw [hN] at hb;have n1:32<=N:=(by omega);have n2:N<=126:=(by omega);clear hN hc hc' hb0 htk hcc HA;go_wp2_with fail
    go_round
    case rel=>exact ⟨k+1,by omega,by go_num,HA2⟩
    case measure=>simp [intOf];omega
   ·have HF:Hid (zE4 m l=false):=by
     show _=_;have hm:c ∈ l:=by
      have:c ∈ l.take (k+1):=(by rw [htk];simp);exact List.mem_of_mem_take this
     have hf:l.all zCN=false:=by
      cases hq:l.all zCN with
      | false=>rfl
      | true=>exact absurd ((List.all_eq_true.1 hq) c hm) hc
     unfold zE4;rw [hf];rfl
    have hc':c.toNat<32\/126<c.toNat:=by
     have:¬ (32<=c.toNat/\c.toNat<=126):=(by simpa [zCN] using hc);omega
    obtain ⟨N,hN⟩:∃ N:Int,(c.toNat:Int)=N:=⟨_,rfl⟩;rw [hN] at hb;have n1:N<32\/126<N:=(by omega);clear hN hc hc' hb0 htk hcc HA
    rcases n1 with n1 | n1
    ·go_wp2_with fail;go_ret;exact ⟨zA5 (by rw [HF.out]),rfl⟩
    ·have n2:32<=N:=(by omega);go_wp2_with fail;go_ret;exact ⟨zA5 (by rw [HF.out]),rfl⟩
  ·obtain rfl:k=n:=by omega
   have HT:Hid (zE4 m l=decide ((k:Int)<=(m:Int))):=by
    show _=_;have h1:=HA.out;rw [List.take_of_length_le (by rw [HN.out];omega)] at h1;unfold zE4;rw [h1,HN.out];simp
   clear HA;go_wp2_with fail;go_ret;exact ⟨zA5 (by rw [HT.out];simp),rfl⟩
def zQ9 (l:List UInt8):Bool:=(l == [84,82,85,69]) || (l == [70,65,76,83,69])
theorem boolI (l:List UInt8) (w:World):Calls Tryz.prog 68 #[sV l] w fun e w'=>e=.returned (.bool (zQ9 l))/\w'=w:=by
 obtain ⟨p,hp⟩:=nm ((l == [84,82,85,69]));obtain ⟨q,hq⟩:=nm ((l == [70,65,76,83,69]));have e:zQ9 l=(p || q):=by unfold zQ9;rw [hp,hq]
 rw [e];clear e;cases p <;> cases q
 all_goals
  go_enter Tryz.func68,Tryz.ntmps68;go_wp2_with fail;go_ret;exact ⟨rfl,rfl⟩
def memB (L:List (List UInt8)) (l:List UInt8):Bool:=L.any fun t=>t == l
theorem zNR {L:List (List UInt8)} {l t:List UInt8} {k:Nat} (h:L[k]?=some t) (e:(t == l)=true):memB L l=true:=by
 unfold memB;rw [List.any_eq_true];exact ⟨t,List.mem_of_getElem? h,e⟩
theorem zSR {L:List (List UInt8)} {l:List UInt8} (h:∀ (j:Nat) (t:List UInt8),L[j]?=some t->(t == l)=false):memB L l=false:=by
 unfold memB;rw [List.any_eq_false];intro t ht;obtain ⟨j,hj⟩:=List.getElem?_of_mem ht;rw [h j t hj];decide
def errL:List (List UInt8):=[[35,78,85,76,76,33],[35,68,73,86,47,48,33],[35,86,65,76,85,69,33],[35,82,69,70,33],[35,78,65,77,69,63],[35,78,85,77,33],[35,78,47,65],[35,83,80,73,76,76,33],[35,67,89,67,76,69,33]]
theorem inS (L:List (List UInt8)) (l:List UInt8) (g cap:Nat) (w:World) (hL:L.length<=100) (V:Vec w g (L.map sV)) :
  Calls Tryz.prog 78 #[.slice (some ⟨g,0,none⟩) L.length cap,sV l] w fun e w'=>e=.returned (.bool (memB L l))/\w'=w:=by
 obtain ⟨n,hn⟩:=nm (L.length);have HN:=hid hn;have HV:=hid V;have HY:Hid (∀ t (k:Nat),L[k]?=some t->(t == l)=true->memB L l=true):=fun t k h e=>zNR h e;have HX:Hid ((∀ (j:Nat) t,L[j]?=some t->(t == l)=false)->memB L l=false):=fun h=>zSR h;obtain ⟨R,hR⟩:=nm (memB L l);rw [hR] at HY HX ⊢;rw [hn] at hL ⊢;clear hn V hR;go_enter Tryz.func78,Tryz.ntmps78;go_wp2_with fail
 go_loop [9] (fun i=>∃ k:Nat,k<=n/\i=.int .i64 k/\Hid (∀ (j:Nat) t,j<k->L[j]?=some t->(t == l)=false)) (fun i=>n - (intOf i).toNat)
 case atStart=>exact ⟨0,by omega,rfl,fun j t hj=>by omega⟩
 case round =>
  obtain ⟨k,hk,rfl,HA⟩:=hrel;by_cases hlt:k<n
  ·obtain ⟨t,ht⟩:∃ t,L[k]?=some t:=⟨_,List.getElem?_eq_getElem (by rw [HN.out];exact hlt)⟩;have a0:=(HV.out k (sV t) (by rw [List.getElem?_map,ht];rfl)).1;have i2:(k:Int)<(n:Int):=by omega
   obtain ⟨p,hp⟩:=nm ((t == l));cases p
   ·have HA2:Hid (∀ (j:Nat) t,j<k+1->L[j]?=some t->(t == l)=false):=fun j t' hj h=>by
     rcases Nat.lt_or_ge j k with hjk | hjk
     ·exact HA.out j t' hjk h
     ·obtain rfl:j=k:=(by omega);rw [ht] at h;cases h;exact hp
    clear HA ht;go_wp2_with fail
    go_round
    case rel=>exact ⟨k+1,by omega,by go_num,HA2⟩
    case measure=>simp [intOf];omega
   ·have hr:=HY.out t k ht hp;subst hr;clear HA ht;go_wp2_with fail;go_ret;exact ⟨rfl,rfl⟩
  ·obtain rfl:k=n:=by omega
   have hr:=HX.out (fun j t h=>HA.out j t (by have:=(List.getElem?_eq_some_iff.1 h).1;rw [HN.out] at this;exact this) h);subst hr;clear HA;go_wp2_with fail;go_ret;exact ⟨rfl,rfl⟩
theorem zTC (w:World):Calls Tryz.prog 63 #[] w fun e w'=>∃ g,e=.returned (.slice (some ⟨g,0,none⟩) 9 9)/\Vec w' g (errL.map sV)/\Ext w w':=by
 go_enter Tryz.func63,Tryz.ntmps63;go_wp2_with fail;go_ret;exact ⟨_,rfl,zA2 w (errL.map sV) 9,x1 _ _⟩
def zE6 (w:World):Prop:=∀ i t,errL[i]?=some t->w.cell? ⟨2,i,none⟩=some (sV t)
theorem zE6.l {w w':World} (h:zE6 w) (e:Ext w w'):zE6 w':=fun i t ht=>cell_later e (h i t ht)
abbrev errV:Value:=.agg #[sV [35,78,85,76,76,33],sV [35,68,73,86,47,48,33],sV [35,86,65,76,85,69,33],sV [35,82,69,70,33],sV [35,78,65,77,69,63],sV [35,78,85,77,33],sV [35,78,47,65],sV [35,83,80,73,76,76,33],sV [35,67,89,67,76,69,33]]
theorem err_at0 (W:World):(Instr.index 151 errV (iQ 0)).run Tryz.prog W=.ok (sV [35,78,85,76,76,33]) W:=by kernel_rfl
theorem err_at1 (W:World):(Instr.index 151 errV (iQ 1)).run Tryz.prog W=.ok (sV [35,68,73,86,47,48,33]) W:=by kernel_rfl
theorem err_at2 (W:World):(Instr.index 151 errV (iQ 2)).run Tryz.prog W=.ok (sV [35,86,65,76,85,69,33]) W:=by kernel_rfl
theorem err_at3 (W:World):(Instr.index 151 errV (iQ 3)).run Tryz.prog W=.ok (sV [35,82,69,70,33]) W:=by kernel_rfl
theorem err_at4 (W:World):(Instr.index 151 errV (iQ 4)).run Tryz.prog W=.ok (sV [35,78,65,77,69,63]) W:=by kernel_rfl
theorem err_at5 (W:World):(Instr.index 151 errV (iQ 5)).run Tryz.prog W=.ok (sV [35,78,85,77,33]) W:=by kernel_rfl
theorem err_at6 (W:World):(Instr.index 151 errV (iQ 6)).run Tryz.prog W=.ok (sV [35,78,47,65]) W:=by kernel_rfl
theorem err_at7 (W:World):(Instr.index 151 errV (iQ 7)).run Tryz.prog W=.ok (sV [35,83,80,73,76,76,33]) W:=by kernel_rfl
theorem err_at8 (W:World):(Instr.index 151 errV (iQ 8)).run Tryz.prog W=.ok (sV [35,67,89,67,76,69,33]) W:=by kernel_rfl
theorem err_at (k:Nat) (hk:k<9):∃ t,errL[k]?=some t/\∀ W:World,(Instr.index 151 errV (iQ k)).run Tryz.prog W=.ok (sV t) W:=by
 match k,hk with
 | 0,_=>exact ⟨_,rfl,err_at0⟩
 | 1,_=>exact ⟨_,rfl,err_at1⟩
 | 2,_=>exact ⟨_,rfl,err_at2⟩
 | 3,_=>exact ⟨_,rfl,err_at3⟩
 | 4,_=>exact ⟨_,rfl,err_at4⟩
 | 5,_=>exact ⟨_,rfl,err_at5⟩
 | 6,_=>exact ⟨_,rfl,err_at6⟩
 | 7,_=>exact ⟨_,rfl,err_at7⟩
 | 8,_=>exact ⟨_,rfl,err_at8⟩
theorem errI (l:List UInt8) (w:World) (hE:zE6 w):Calls Tryz.prog 69 #[sV l] w fun e w'=>e=.returned (.bool (memB errL l))/\w'=w:=by
 have e0:=hE 0 _ rfl;have e1:=hE 1 _ rfl;have e2:=hE 2 _ rfl;have e3:=hE 3 _ rfl;have e4:=hE 4 _ rfl;have e5:=hE 5 _ rfl;have e6:=hE 6 _ rfl;have e7:=hE 7 _ rfl;have e8:=hE 8 _ rfl;have HY:Hid (∀ t (k:Nat),errL[k]?=some t->(t == l)=true->memB errL l=true):=fun t k h e=>zNR h e;have HX:Hid ((∀ (j:Nat) t,errL[j]?=some t->(t == l)=false)->memB errL l=false):=fun h=>zSR h;obtain ⟨R,hR⟩:=nm (memB errL l);rw [hR] at HY HX ⊢;clear hR hE;go_enter Tryz.func69,Tryz.ntmps69;go_wp2_with fail;clear e0 e1 e2 e3 e4 e5 e6 e7 e8
 go_loop [6] (fun i=>∃ k:Nat,k<=9/\i=.int .i64 k/\Hid (∀ (j:Nat) t,j<k->errL[j]?=some t->(t == l)=false)) (fun i=>9 - (intOf i).toNat)
 case atStart=>exact ⟨0,by omega,rfl,fun j t hj=>by omega⟩
 case round =>
  obtain ⟨k,hk,rfl,HA⟩:=hrel;by_cases hlt:k<9
  ·obtain ⟨t,ht,hix⟩:=err_at k hlt;have i2:(k:Int)<9:=by omega
   obtain ⟨p,hp⟩:=nm ((t == l));cases p
   ·have HA2:Hid (∀ (j:Nat) t,j<k+1->errL[j]?=some t->(t == l)=false):=fun j t' hj h=>by
     rcases Nat.lt_or_ge j k with hjk | hjk
     ·exact HA.out j t' hjk h
     ·obtain rfl:j=k:=(by omega);rw [ht] at h;cases h;exact hp
    clear HA ht;go_wp2_with fail
    go_round
    case rel=>exact ⟨k+1,by omega,by go_num,HA2⟩
    case measure=>simp [intOf];omega
   ·have hr:=HY.out t k ht hp;subst hr;clear HA ht;go_wp2_with fail;go_ret;exact ⟨rfl,rfl⟩
  ·obtain rfl:k=9:=by omega
   have hr:=HX.out (fun j t h=>HA.out j t (by have:=(List.getElem?_eq_some_iff.1 h).1;simpa [errL] using this) h);subst hr;clear HA;go_wp2_with fail;go_ret;exact ⟨rfl,rfl⟩
end Go.Proofs.YtjlojlgdkfpcdaaGreatDoor

namespace Go.Proofs.YtjlojlgdkfpcdaaGreatDoor
open Go.ChangeShapes Go.WideShapes Go.ChangeAt Go.RowKit
theorem gErrs:Tryz.prog.globalNamed "loop.example/g00025/impl.errorTexts" = some 2:=by kernel_rfl
theorem zLF:(Tryz.prog.globals[2]?).map (·.type)=some 151:=by kernel_rfl
theorem zR2:Tryz.prog.cellsOf 9=1:=by kernel_rfl
theorem zBU {H:Type} {enc:TypeId × Value->H} {w:World} {base:Nat} {sp:Nat->Bool} {held:Bool} {fuel:Nat} {cs:List Value} {l:List UInt8} {p:List MemPlace} (o:Nat)
  (h:DataW.trod enc Tryz.prog w base sp held fuel 9 ((cs.drop (o * Tryz.prog.cellsOf 9)).take (Tryz.prog.cellsOf 9))=some (.lit (.string l),p)):cs[o]?=some (sV l):=by
 rw [zR2,Nat.mul_one] at h;obtain ⟨s,hc,hx,_⟩:=DataW.trod_string Tryz.underlying9 h;simp only [Prod.mk.injEq,DataW.lit.injEq,Lit.string.injEq] at hx;have:=congrArg (·[0]?) hc;simp only [List.getElem?_take,List.getElem?_drop,List.getElem?_cons_zero] at this;have hs:s=⟨l.toArray⟩:=by
  cases s;rw [hx.1]
 rw [hs] at this;simpa using this
theorem errs_of {rest:List (String × DataW Unit)} {W:World} (h:laidMet Tryz.prog (("loop.example/g00025/impl.errorTexts", Rows.laid_loop_example_g00025_impl_errorTexts) :: rest) W):zE6 W:=by
 obtain ⟨ps,⟨g',t',cs,fuel,p,q,hg',ht',hvar,hd,_,_⟩,_⟩:=h;obtain rfl:=Option.some.inj (gErrs.symm.trans hg');obtain rfl:=Option.some.inj (zLF.symm.trans ht');have C:=fun i v (h:cs.toList[i]?=some v)=>(World.var?_cell gErrs hvar i).trans (by simpa using h);intro i t hi;have h9:i<9:=(List.getElem?_eq_some_iff.1 hi).1
 match i,h9,hi with
 | 0,h9,hi=>cases hi;obtain ⟨_,_,k⟩:=zA3 Tryz.underlying151 hd 0 h9 _ rfl;exact C 0 _ (zBU 0 k)
 | 1,h9,hi=>cases hi;obtain ⟨_,_,k⟩:=zA3 Tryz.underlying151 hd 1 h9 _ rfl;exact C 1 _ (zBU 1 k)
 | 2,h9,hi=>cases hi;obtain ⟨_,_,k⟩:=zA3 Tryz.underlying151 hd 2 h9 _ rfl;exact C 2 _ (zBU 2 k)
 | 3,h9,hi=>cases hi;obtain ⟨_,_,k⟩:=zA3 Tryz.underlying151 hd 3 h9 _ rfl;exact C 3 _ (zBU 3 k)
 | 4,h9,hi=>cases hi;obtain ⟨_,_,k⟩:=zA3 Tryz.underlying151 hd 4 h9 _ rfl;exact C 4 _ (zBU 4 k)
 | 5,h9,hi=>cases hi;obtain ⟨_,_,k⟩:=zA3 Tryz.underlying151 hd 5 h9 _ rfl;exact C 5 _ (zBU 5 k)
 | 6,h9,hi=>cases hi;obtain ⟨_,_,k⟩:=zA3 Tryz.underlying151 hd 6 h9 _ rfl;exact C 6 _ (zBU 6 k)
 | 7,h9,hi=>cases hi;obtain ⟨_,_,k⟩:=zA3 Tryz.underlying151 hd 7 h9 _ rfl;exact C 7 _ (zBU 7 k)
 | 8,h9,hi=>cases hi;obtain ⟨_,_,k⟩:=zA3 Tryz.underlying151 hd 8 h9 _ rfl;exact C 8 _ (zBU 8 k)
theorem zK8:∀ g t,Tryz.prog.globalNamed "loop.example/g00025/impl.errorTexts" = some g->(Tryz.prog.globals[g]?).map (·.type)=some t->Tryz.prog.readableRec t=true/\t<Tryz.prog.types.size:=by
 intro g t hg ht;obtain rfl:=Option.some.inj (gErrs.symm.trans hg);obtain rfl:=Option.some.inj (zLF.symm.trans ht);exact ⟨by kernel_rfl,of_decide_eq_true (by kernel_rfl)⟩
end Go.Proofs.YtjlojlgdkfpcdaaGreatDoor

namespace Go.Proofs.YtjlojlgdkfpcdaaGreatDoor
open Go.RowKit
def zD2 (w0:World):Prop:=∀ (n:Int) (w:World),-1000000000000000<n->n<1000000000000000->Ext w0 w->Calls Tryz.prog 138 #[iQ n] w fun e w'=>∃ s,e=.returned (.string s)/\s.data.toList=Lib.itoa n/\Ext w w'
def RepC:Prop:=∀ (c:Int) (w:World),0<=c->c<=1000->Calls Tryz.prog 45 #[.string ⟨#[48]⟩,iQ c] w fun e w'=>∃ s,e=.returned (.string s)/\s.data.toList=List.replicate c.toNat 48/\Ext w w'
end Go.Proofs.YtjlojlgdkfpcdaaGreatDoor

