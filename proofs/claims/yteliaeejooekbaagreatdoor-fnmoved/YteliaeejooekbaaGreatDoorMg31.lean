import Derived.Test.YteliaeejooekbaaGreatDoorMg26
import Derived.Test.YteliaeejooekbaaGreatDoorMg30
set_option maxRecDepth 8000
set_option maxHeartbeats 4000000
namespace Go.Proofs.YteliaeejooekbaaGreatDoor
open Go.RowKit
theorem zGO:∀ (a b:List ET),cntL (a++b)=cntL a+cntL b
 | [],b=>by rw [List.nil_append,cntL];omega
 | k :: a,b=>by rw [List.cons_append,cntL,cntL,zGO a b];omega
theorem zGT {P:NT->Prop}:∀ (a b:List ET),allL P a->allL P b->allL P (a++b)
 | [],_,_,h=>h
 | _ :: a,b,ha,h=>⟨ha.1,zGT a b ha.2 h⟩
theorem zIL {g:List NT->Option (ET × List NT)} (hg:∀ l t r,g l=some (t,r)->cntE t+r.length=l.length):∀ (m:Nat) (l:List NT) (ks:List ET) (r:List NT),zBH g m l=some (ks,r)->cntL ks+r.length=l.length
 | 0,l,ks,r,h=>by cases h;rw [cntL];omega
 | m+1,l,ks,r,h=>by
  rw [zBH] at h
  split at h
  ·cases h
  ·next ks1 r1 h1 =>
   split at h
   ·cases h
   ·next k r2 h2 =>
    cases h;have a:=zIL hg m l ks1 r1 h1;have b:=hg _ _ _ h2;rw [zGO,cntL,cntL];omega
theorem zHJ:∀ (F:Nat) (l:List NT) (t:ET) (r:List NT),zB5 F l=some (t,r)->cntE t+r.length=l.length
 | 0,_,_,_,h=>by cases h
 | F+1,[],_,_,h=>by cases h
 | F+1,n :: rest,t,r,h=>by
  rw [zB5] at h
  split at h
  ·split at h
   ·cases h
   ·next ks r1 h1 =>
    cases h;have a:=zIL (zHJ F) _ _ _ _ h1;rw [cntE,List.length_cons];omega
  ·cases h
theorem zIM {P:NT->Prop} {g:List NT->Option (ET × List NT)} (hg:∀ l t r,(∀ x ∈ l,P x)->g l=some (t,r)->allE P t/\∀ x ∈ r,P x):∀ (m:Nat) (l:List NT) (ks:List ET) (r:List NT),(∀ x ∈ l,P x)->zBH g m l=some (ks,r)->allL P ks/\∀ x ∈ r,P x
 | 0,l,ks,r,hl,h=>by cases h;exact ⟨trivial,hl⟩
 | m+1,l,ks,r,hl,h=>by
  rw [zBH] at h
  split at h
  ·cases h
  ·next ks1 r1 h1 =>
   split at h
   ·cases h
   ·next k r2 h2 =>
    cases h;have a:=zIM hg m l ks1 r1 hl h1;have b:=hg _ _ _ a.2 h2;exact ⟨zGT _ _ a.1 ⟨b.1,trivial⟩,b.2⟩
theorem zKC {P:NT->Prop}:∀ (F:Nat) (l:List NT) (t:ET) (r:List NT),(∀ x ∈ l,P x)->zB5 F l=some (t,r)->allE P t/\∀ x ∈ r,P x
 | 0,_,_,_,_,h=>by cases h
 | F+1,[],_,_,_,h=>by cases h
 | F+1,n :: rest,t,r,hl,h=>by
  rw [zB5] at h
  split at h
  ·split at h
   ·cases h
   ·next ks r1 h1 =>
    cases h;have a:=zIM (zKC F) _ _ _ _ (fun x hx=>hl x (List.mem_cons_of_mem _ hx)) h1;exact ⟨⟨hl n List.mem_cons_self,a.1⟩,a.2⟩
  ·cases h
def zO7:Option (Nat × Nat)->Bool
 | some (n,d)=>decide (n<=300) && decide (d<=40)
 | none=>false
noncomputable def zFL (t:ET):Bool:=zO7 (zC1 NT.good t false)
theorem zGI {f:List NT} {t:ET} (h0:1<=f.length) (h1:f.length<=300) (h:zB5 41 f=some (t,[])):zAZ NT.good f=zFL t:=by
 unfold zAZ zFL;rw [h,decide_eq_true h0,decide_eq_true h1];show (true && true && (match zC1 NT.good t false with
  | some (n,d)=>decide (n<=300) && decide (d<=40)
  | none=>false))=_
 cases zC1 NT.good t false with
 | none=>rfl
 | some q=>obtain ⟨a,b⟩:=q;rfl
theorem zDM {f:List NT} (h:∀ t,zB5 41 f ≠ some (t,[])):zAZ NT.good f=false:=by
 unfold zAZ;cases ht:zB5 41 f with
 | none=>simp
 | some q =>
  obtain ⟨t,r⟩:=q;cases r with
  | nil=>exact absurd ht (h t)
  | cons a r=>simp
theorem zC3 {f:List NT} (h:f.length=0\/300<f.length):zAZ NT.good f=false:=by
 unfold zAZ
 rcases h with h | h
 ·rw [decide_eq_false (show ¬ 1<=f.length by omega)];rfl
 ·rw [decide_eq_false (show ¬ f.length<=300 by omega),Bool.and_false,Bool.false_and]
theorem zAX.setCells {b:Nat} {w w':World} (h:zAX b w w') (us:List Value) (o:Nat):zAX b w (w'.setCells b o us):=by
 induction us generalizing o w' with
 | nil=>exact h
 | cons u us ih=>exact ih (h.set u) (o+1)
theorem zV5 {W:World} {U:Nat->Prop} (hU:∀ k,U k->k<W.heap.size) {v:Value} {es:List ET} (h:KidsS W U v es) (x:NT) (hx:x.t.length<=1048576) (ha:allL (fun n=>n.t.length<=1048576) es) (hc:cntL es<=1000000) :
  Calls Tryz.prog 67 #[x.ex v] W fun r w'=>r=.returned (.bool (zFL (.mk x es)))/\Ext W w':=by
 have HS:Hid (∀ W',Ext W W'->Calls Tryz.prog 85 #[x.ex v,.bool false] W' fun r w'=>r=.returned (zGY (zC1 NT.good (.mk x es) false))/\Ext W' w'):=fun W' X=>zU3 hU h x false W' X hx ha hc;unfold zFL;obtain ⟨SZ,hSZ⟩:=nm (zC1 NT.good (.mk x es) false);rw [hSZ] at HS ⊢;obtain ⟨p,cap,rfl,_⟩:=h.slice;obtain ⟨kk,hkk⟩:=nm (es.length);rw [hkk] at HS ⊢;clear hkk hSZ h ha hc hx;obtain ⟨xk,xt',xn,xd',xx,xr',xc,xf,xg,xr2,xc2,xf2,xg2,xq⟩:=x;have XB:=x1 W (.cells (NT.exL ⟨xk,xt',xn,xd',xx,xr',xc,xf,xg,xr2,xc2,xf2,xg2,xq⟩ (.slice p kk cap)).toArray 77);have VB:=zA5 W (NT.exL ⟨xk,xt',xn,xd',xx,xr',xc,xf,xg,xr2,xc2,xf2,xg2,xq⟩ (.slice p kk cap)) 77;obtain ⟨wa,ha⟩:=nm (W.alloc (.cells (NT.exL ⟨xk,xt',xn,xd',xx,xr',xc,xf,xg,xr2,xc2,xf2,xg2,xq⟩ (.slice p kk cap)).toArray 77));rw [ha] at XB VB;have VRB:wa.rangeAt W.heap.size 0 (NT.exL ⟨xk,xt',xn,xd',xx,xr',xc,xf,xg,xr2,xc2,xf2,xg2,xq⟩ (.slice p kk cap)):=fun j u hu=>by rw [Nat.zero_add];exact (VB j u hu).1
 go_enter Tryz.func67,Tryz.ntmps67;go_wp2_with (refine wpList_load_mid rfl 77 (.tmp 1) rfl W.heap.size 0 rfl (NT.exL ⟨xk,xt',xn,xd',xx,xr',xc,xf,xg,xr2,xc2,xf2,xg2,xq⟩ (.slice p kk cap)) _ VRB Tryz.underlying77 rfl zDL ?_);refine (HS.out wa XB).mono ?_;rintro e w1 ⟨rfl,e1⟩;have Y1:=xt XB e1;clear HS VRB VB ha;cases SZ with
 | none =>
  rw [show zGY none=Value.tuple #[iQ 0,iQ 0,.bool false] from rfl];go_wp2_with fail;go_ret;exact ⟨rfl,Y1⟩
 | some q =>
  obtain ⟨n,d⟩:=q;rw [show zGY (some (n,d))=Value.tuple #[iQ (n:Int),iQ (d:Int),.bool true] from rfl];by_cases hn:n<=300
  ·have i1:(n:Int)<=300:=by omega
   by_cases hd:d<=40
   ·have i2:(d:Int)<=40:=(by omega);have HG:Hid (zO7 (some (n,d))=true):=(by show (decide (n<=300) && decide (d<=40))=true;simp [hn,hd]);go_wp2_with fail;go_ret;exact ⟨by rw [HG.out];rfl,Y1⟩
   ·have i2:¬ (d:Int)<=40:=(by omega);have i3:decide ((d:Int)<=40)=false:=decide_eq_false i2;have HG:Hid (zO7 (some (n,d))=false):=(by show (decide (n<=300) && decide (d<=40))=false;simp [hd]);go_wp2_with fail;go_ret;exact ⟨by rw [HG.out];rfl,Y1⟩
  ·have i1:¬ (n:Int)<=300:=by omega
   have i3:decide ((n:Int)<=300)=false:=decide_eq_false i1;have HG:Hid (zO7 (some (n,d))=false):=by show (decide (n<=300) && decide (d<=40))=false;simp [hn]
   go_wp2_with fail;go_ret;exact ⟨by rw [HG.out];rfl,Y1⟩
mutual
def zM0:ET->List NT
 | .mk n ks=>n :: zEN ks
def zEN:List ET->List NT
 | []=>[]
 | k :: ks=>zM0 k++zEN ks
end
theorem zFM:∀ (a b:List ET),zEN (a++b)=zEN a++zEN b
 | [],b=>by rw [List.nil_append,zEN,List.nil_append]
 | k :: a,b=>by rw [List.cons_append,zEN,zEN,zFM a b,List.append_assoc]
theorem zH7 {g:List NT->Option (ET × List NT)} (hg:∀ l t r,g l=some (t,r)->l=zM0 t++r):∀ (m:Nat) (l:List NT) (ks:List ET) (r:List NT),zBH g m l=some (ks,r)->l=zEN ks++r
 | 0,l,ks,r,h=>by cases h;rw [zEN,List.nil_append]
 | m+1,l,ks,r,h=>by
  rw [zBH] at h
  split at h
  ·cases h
  ·next ks1 r1 h1 =>
   split at h
   ·cases h
   ·next k r2 h2 =>
    cases h;have a:=zH7 hg m l ks1 r1 h1;have b:=hg _ _ _ h2;rw [zFM,zEN,zEN,List.append_nil,List.append_assoc,<- b];exact a
theorem zI3:∀ (F:Nat) (l:List NT) (t:ET) (r:List NT),zB5 F l=some (t,r)->l=zM0 t++r
 | 0,_,_,_,h=>by cases h
 | F+1,[],_,_,h=>by cases h
 | F+1,n :: rest,t,r,h=>by
  rw [zB5] at h
  split at h
  ·split at h
   ·cases h
   ·next ks r1 h1 =>
    cases h;have a:=zH7 (zI3 F) _ _ _ _ h1;rw [zM0,List.cons_append,<- a]
  ·cases h
mutual
theorem zI8 (gd:NT->Bool):∀ (e:ET) (many:Bool) (s:Nat × Nat),zC1 gd e many=some s->∀ x ∈ zM0 e,gd x=true
 | .mk n ks,many,s,h=>by
  rw [zC1] at h
  split at h
  ·next hr =>
   split at h
   ·cases h
   ·next a d h1 =>
    intro x hx;rw [zM0] at hx
    rcases List.mem_cons.1 hx with rfl | hx
    ·unfold zCI at hr;simp only [Bool.and_eq_true] at hr;exact hr.1.1.2
    ·exact zH2 gd ks _ _ h1 x hx
  ·cases h
theorem zH2 (gd:NT->Bool):∀ (es:List ET) (many:Bool) (s:Nat × Nat),zB2 gd es many=some s->∀ x ∈ zEN es,gd x=true
 | [],many,s,h=>by intro x hx;rw [zEN] at hx;cases hx
 | k :: ks,many,s,h=>by
  rw [zB2] at h
  split at h
  ·cases h
  ·next a b h1 =>
   split at h
   ·cases h
   ·next c d h2 =>
    intro x hx;rw [zEN] at hx
    rcases List.mem_append.1 hx with hx | hx
    ·exact zI8 gd k _ _ h1 x hx
    ·exact zH2 gd ks _ _ h2 x hx
end
theorem zH9 {f:List NT} (h:zAZ NT.good f=true):∀ x ∈ f,x.good=true:=by
 have h1:1<=f.length/\f.length<=300:=by
  rcases Nat.lt_or_ge 300 f.length with h' | h'
  ·rw [zC3 (Or.inr h')] at h;cases h
  ·rcases Nat.eq_zero_or_pos f.length with h0 | h0
   ·rw [zC3 (Or.inl h0)] at h;cases h
   ·exact ⟨h0,h'⟩
 cases ht:zB5 41 f with
 | none=>rw [zDM (fun t h'=>by rw [ht] at h';cases h')] at h;cases h
 | some q =>
  obtain ⟨t,r⟩:=q;cases r with
  | cons a r=>rw [zDM (fun t h'=>by rw [ht] at h';cases h')] at h;cases h
  | nil =>
   rw [zGI h1.1 h1.2 ht] at h;have hf:=zI3 _ _ _ _ ht;rw [List.append_nil] at hf;unfold zFL zO7 at h
   split at h
   ·next n d hs=>intro x hx;rw [hf] at hx;exact zI8 NT.good t false _ hs x hx
   ·cases h
structure YA (f:List NT) where
 i:Nat
 x:NT
 hx:f[i]?=some x
 hk:x.k=5\/x.k=6
def NT.er (x:NT):Int:=if x.k=5 then x.r else x.r2
def NT.ec (x:NT):Int:=if x.k=5 then x.c else x.c2
def NT.ef (x:NT):Bool:=if x.k=5 then x.f else x.f2
def NT.eg (x:NT):Bool:=if x.k=5 then x.g else x.g2
def adrT (f:List NT):Nat->List (YA f)
 | 0=>[]
 | k+1=>adrT f k++(match h:f[k]? with
  | some x=>if hk:x.k=5\/x.k=6 then [⟨k,x,h,hk⟩] else []
  | none=>[])
theorem zL7 {f:List NT} {k:Nat} {x:NT} (h:f[k]?=some x) (hk:x.k=5\/x.k=6):adrT f (k+1)=adrT f k++[⟨k,x,h,hk⟩]:=by
 rw [adrT]
 congr 1
 split
 ·next y hy =>
  have:y=x:=Option.some.inj (hy.symm.trans h);subst this;rw [dif_pos hk]
 ·next hy=>rw [h] at hy;cases hy
theorem zOZ {f:List NT} {k:Nat} {x:NT} (h:f[k]?=some x) (hk:¬ (x.k=5\/x.k=6)):adrT f (k+1)=adrT f k:=by
 rw [adrT]
 split
 ·next y hy =>
  have:y=x:=Option.some.inj (hy.symm.trans h);subst this;rw [dif_neg hk,List.append_nil]
 ·next hy=>rw [h] at hy;cases hy
theorem zL8 (f:List NT):∀ k,(adrT f k).length<=k
 | 0=>Nat.le_refl _
 | k+1=>by
  rw [adrT,List.length_append];have:=zL8 f k
  split
  ·split
   ·simp only [List.length_cons,List.length_nil];omega
   ·simp only [List.length_nil];omega
  ·simp only [List.length_nil];omega
end Go.Proofs.YteliaeejooekbaaGreatDoor
