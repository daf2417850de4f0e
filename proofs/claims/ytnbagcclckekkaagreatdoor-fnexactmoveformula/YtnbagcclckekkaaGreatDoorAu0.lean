/-
  Chapter 4: the nodes of a formula that have an address; each node of a good formula is good.
-/
import Derived.Test.YtnbagcclckekkaaGreatDoorMg37
import Derived.Test.YtnbagcclckekkaaGreatDoorMg27
namespace Go.Proofs.YtnbagcclckekkaaGreatDoor
open Go.RowKit
mutual
def flatE:ET→List NT
 | .mk n ks=>n :: flatL ks
def flatL:List ET→List NT
 | []=>[]
 | k :: ks=>flatE k++flatL ks
end
theorem flatL_append:∀ (a b:List ET),flatL (a++b)=flatL a++flatL b
 | [],b=>by rw [List.nil_append,flatL,List.nil_append]
 | k :: a,b=>by rw [List.cons_append,flatL,flatL,flatL_append a b,List.append_assoc]
theorem manyF_flat {g:List NT→Option (ET × List NT)} (hg:∀ l t r,g l=some (t,r)→l=flatE t++r):∀ (m:Nat) (l:List NT) (ks:List ET) (r:List NT),manyF g m l=some (ks,r)→l=flatL ks++r
 | 0,l,ks,r,h=>by cases h;rw [flatL,List.nil_append]
 | m+1,l,ks,r,h=>by
  rw [manyF] at h
  split at h
  ·cases h
  ·next ks1 r1 h1 =>
   split at h
   ·cases h
   ·next k r2 h2 =>
    cases h;have a:=manyF_flat hg m l ks1 r1 h1;have b:=hg _ _ _ h2;rw [flatL_append,flatL,flatL,List.append_nil,List.append_assoc,← b];exact a
theorem take_flat:∀ (F:Nat) (l:List NT) (t:ET) (r:List NT),takeF F l=some (t,r)→l=flatE t++r
 | 0,_,_,_,h=>by cases h
 | F+1,[],_,_,h=>by cases h
 | F+1,n :: rest,t,r,h=>by
  rw [takeF] at h
  split at h
  ·split at h
   ·cases h
   ·next ks r1 h1 =>
    cases h;have a:=manyF_flat (take_flat F) _ _ _ _ h1;rw [flatE,List.cons_append,← a]
  ·cases h
mutual
theorem size_good (gd:NT→Bool):∀ (e:ET) (many:Bool) (s:Nat × Nat),sizeE gd e many=some s→∀ x ∈ flatE e,gd x=true
 | .mk n ks,many,s,h=>by
  rw [sizeE] at h
  split at h
  ·next hr =>
   split at h
   ·cases h
   ·next a d h1 =>
    intro x hx;rw [flatE] at hx
    rcases List.mem_cons.1 hx with rfl | hx
    ·unfold rightE at hr;simp only [Bool.and_eq_true] at hr;exact hr.1.1.2
    ·exact sizeL_good gd ks _ _ h1 x hx
  ·cases h
theorem sizeL_good (gd:NT→Bool):∀ (es:List ET) (many:Bool) (s:Nat × Nat),sizeL gd es many=some s→∀ x ∈ flatL es,gd x=true
 | [],many,s,h=>by intro x hx;rw [flatL] at hx;cases hx
 | k :: ks,many,s,h=>by
  rw [sizeL] at h
  split at h
  ·cases h
  ·next a b h1 =>
   split at h
   ·cases h
   ·next c d h2 =>
    intro x hx;rw [flatL] at hx
    rcases List.mem_append.1 hx with hx | hx
    ·exact size_good gd k _ _ h1 x hx
    ·exact sizeL_good gd ks _ _ h2 x hx
end
theorem good_nodes {f:List NT} (h:goodSF NT.good f=true):∀ x ∈ f,x.good=true:=by
 have h1:1≤f.length∧f.length≤300:=by
  rcases Nat.lt_or_ge 300 f.length with h' | h'
  ·rw [goodSF_long (Or.inr h')] at h;cases h
  ·rcases Nat.eq_zero_or_pos f.length with h0 | h0
   ·rw [goodSF_long (Or.inl h0)] at h;cases h
   ·exact ⟨h0,h'⟩
 cases ht:takeF 41 f with
 | none=>rw [goodSF_none (fun t h'=>by rw [ht] at h';cases h')] at h;cases h
 | some q =>
  obtain ⟨t,r⟩:=q;cases r with
  | cons a r=>rw [goodSF_none (fun t h'=>by rw [ht] at h';cases h')] at h;cases h
  | nil =>
   rw [goodSF_take h1.1 h1.2 ht] at h;have hf:=take_flat _ _ _ _ ht;rw [List.append_nil] at hf;unfold goodTB goodO at h
   split at h
   ·next n d hs=>intro x hx;rw [hf] at hx;exact size_good NT.good t false _ hs x hx
   ·cases h
structure YA (f:List NT) where
 i:Nat
 x:NT
 hx:f[i]?=some x
 hk:x.k=5∨x.k=6
def NT.er (x:NT):Int:=if x.k=5 then x.r else x.r2
def NT.ec (x:NT):Int:=if x.k=5 then x.c else x.c2
def NT.ef (x:NT):Bool:=if x.k=5 then x.f else x.f2
def NT.eg (x:NT):Bool:=if x.k=5 then x.g else x.g2
def adrT (f:List NT):Nat→List (YA f)
 | 0=>[]
 | k+1=>adrT f k++(match h:f[k]? with
  | some x=>if hk:x.k=5∨x.k=6 then [⟨k,x,h,hk⟩] else []
  | none=>[])
theorem adrT_yes {f:List NT} {k:Nat} {x:NT} (h:f[k]?=some x) (hk:x.k=5∨x.k=6):adrT f (k+1)=adrT f k++[⟨k,x,h,hk⟩]:=by
 rw [adrT]
 congr 1
 split
 ·next y hy =>
  have:y=x:=Option.some.inj (hy.symm.trans h);subst this;rw [dif_pos hk]
 ·next hy=>rw [h] at hy;cases hy
theorem adrT_no {f:List NT} {k:Nat} {x:NT} (h:f[k]?=some x) (hk:¬ (x.k=5∨x.k=6)):adrT f (k+1)=adrT f k:=by
 rw [adrT]
 split
 ·next y hy =>
  have:y=x:=Option.some.inj (hy.symm.trans h);subst this;rw [dif_neg hk,List.append_nil]
 ·next hy=>rw [h] at hy;cases hy
theorem adrT_len (f:List NT):∀ k,(adrT f k).length≤k
 | 0=>Nat.le_refl _
 | k+1=>by
  rw [adrT,List.length_append];have:=adrT_len f k
  split
  ·split
   ·simp only [List.length_cons,List.length_nil];omega
   ·simp only [List.length_nil];omega
  ·simp only [List.length_nil];omega
end Go.Proofs.YtnbagcclckekkaaGreatDoor

