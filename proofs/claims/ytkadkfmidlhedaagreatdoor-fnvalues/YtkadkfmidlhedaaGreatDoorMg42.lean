/-
  Several texts in one: X9a, V9r, V9b.
-/
import Derived.Test.YtkadkfmidlhedaaGreatDoorMg34
import Derived.Test.YtkadkfmidlhedaaGreatDoorMg41
import Derived.Test.YtkadkfmidlhedaaGreatDoorMg33
import Derived.Test.YtkadkfmidlhedaaGreatDoorMg32
import Derived.Test.YtkadkfmidlhedaaGreatDoorMg17
set_option maxRecDepth 8000
set_option maxHeartbeats 2000000
namespace Go.Proofs.YtkadkfmidlhedaaGreatDoor
open Go.RowKit
theorem zFX:∀ (a b:List UInt8),Lib.compareBytes b a = -Lib.compareBytes a b
 | [],[]=>rfl
 | [],_ :: _=>rfl
 | _ :: _,[]=>rfl
 | x :: a,y :: b=>by
  unfold Lib.compareBytes;by_cases h1:x<y
  ·have h2:¬ y<x:=fun h=>absurd (UInt8.lt_trans h1 h) (UInt8.lt_irrefl _);simp only [h1,h2,if_true,if_false];rfl
  ·by_cases h2:y<x
   ·simp only [h1,h2,if_true,if_false]
   ·simp only [h1,h2,if_false];exact zFX a b
theorem zPU (a b:Int):cmpI b a = -cmpI a b:=by unfold cmpI;split <;> (try split) <;> (try split) <;> (try split) <;> omega
theorem zPT (k:Int) (n:Bool) (d x:Int) (t:List UInt8) (k':Int) (n':Bool) (d' x':Int) (t':List UInt8):cmpR k' n' d' x' t' k n d x t = -cmpR k n d x t k' n' d' x' t':=by
 unfold cmpR;by_cases h:k=k'
 ·subst h;simp only [ne_eq,not_true_eq_false,if_false,Int.min_comm x' x];by_cases h1:k=1
  ·rw [if_pos h1,if_pos h1];exact zPU _ _
  ·rw [if_neg h1,if_neg h1];by_cases h2:k=2
   ·rw [if_pos h2,if_pos h2];exact zFX _ _
   ·rw [if_neg h2,if_neg h2];by_cases h3:k=3
    ·rw [if_pos h3,if_pos h3];exact zFX _ _
    ·rw [if_neg h3,if_neg h3];rfl
 ·rw [if_pos h,if_pos (fun e=>h e.symm)];by_cases h1:k<k'
  ·rw [if_pos h1,if_neg (by omega)];rfl
  ·rw [if_neg h1,if_pos (by omega)]
theorem zIP (k:Int) (n:Bool) (d x:Int) (t:List UInt8) (k':Int) (n':Bool) (d' x':Int) (t':List UInt8) (h:zA0 k n d x t k' n' d' x' t' ≠ 2):zA0 k' n' d' x' t' k n d x t = -zA0 k n d x t k' n' d' x' t':=by
 unfold zA0 at h ⊢;by_cases hg:zA4 k n d x t=true/\zA4 k' n' d' x' t'=true/\k ≠ 4/\k' ≠ 4
 ·rw [if_pos hg,if_pos ⟨hg.2.1,hg.1,hg.2.2.2,hg.2.2.1⟩];exact zPT _ _ _ _ _ _ _ _ _ _
 ·rw [if_neg hg] at h;exact absurd rfl h
theorem zIO (u:Nat):(Lib.decDigits u).all isD=true:=by
 induction u using Nat.strongRecOn with
 | ind u ih =>
  unfold Lib.decDigits
  split
  ·rename_i h;simp only [List.all_cons,List.all_nil,Bool.and_true];unfold isD;simp;omega
  ·rename_i h;rw [List.all_append,ih (u / 10) (by omega)];simp only [List.all_cons,List.all_nil,Bool.and_true,Bool.true_and];unfold isD;simp;omega
theorem zIN (u:Nat):dvN (Lib.decDigits u)=u:=by
 induction u using Nat.strongRecOn with
 | ind u ih =>
  unfold Lib.decDigits
  split
  ·rename_i h;simp [dvN];omega
  ·rename_i h;rw [zFD,ih (u / 10) (by omega)];have:(UInt8.ofNat (48+u % 10)).toNat=48+u % 10:=by rw [UInt8.toNat_ofNat'];omega
   rw [this];omega
theorem zCG {D:List UInt8} (h:D.all isD=true) (r:List UInt8) (hr:∀ c m,r=c :: m->isD c=false):(D++r).takeWhile isD=D/\(D++r).dropWhile isD=r:=by
 induction D with
 | nil =>
  cases r with
  | nil=>exact ⟨rfl,rfl⟩
  | cons c m=>rw [List.nil_append,List.takeWhile_cons,List.dropWhile_cons,hr c m rfl];exact ⟨rfl,rfl⟩
 | cons c D ih =>
  rw [List.all_cons,Bool.and_eq_true] at h;obtain ⟨i1,i2⟩:=ih h.2;rw [List.cons_append,List.takeWhile_cons,List.dropWhile_cons,h.1];exact ⟨by simp [i1],by simpa using i2⟩
theorem zO7 (k:Nat):(List.replicate k (48:UInt8)).all isD=true:=by
 rw [List.all_eq_true];intro c hc;rw [(List.mem_replicate.1 hc).2];decide
theorem zO6 (k:Nat):dvN (List.replicate k (48:UInt8))=0:=by
 induction k with
 | zero=>rfl
 | succ k ih =>
  rw [show List.replicate (k+1) (48:UInt8)=[48]++List.replicate k 48 from rfl,zEZ,ih];simp [dvN]
theorem zOG {E:List UInt8} {p:UInt8} (h:∀ c m,E=c :: m->c ≠ p):Lib.hasPrefix E [p]=false:=by
 cases E with
 | nil=>rfl
 | cons c m =>
  have:=h c m rfl;have hb:(p == c)=false:=by simpa using fun e:p=c=>this e.symm
  show (p == c && List.isPrefixOf [] m)=false;rw [hb];rfl
theorem zIF (p:UInt8) (m:List UInt8):Lib.hasPrefix (p :: m) [p]=true/\Lib.trimPrefix (p :: m) [p]=m:=by
 constructor
 ·simp [Lib.hasPrefix]
 ·simp [Lib.trimPrefix,Lib.hasPrefix]
theorem zFN (n:Bool) {A E:List UInt8} {q:Int} (hA:A.all isD=true) (h0:A ≠ []) (hE:expR E=some q) (hh:∀ c m,E=c :: m->isD c=false/\c ≠ 46):zFP n (A++E)=putR n (dvN A) q false:=by
 obtain ⟨t1,t2⟩:=zCG hA E (fun c m e=>(hh c m e).1);have hp:Lib.hasPrefix E [46]=false:=zOG (fun c m e=>(hh c m e).2);unfold zFP;simp only [t1,t2,hp,Bool.false_eq_true,if_false,hE,false_and,or_false,h0]
theorem zFO (n:Bool) {A F E:List UInt8} {q:Int} (hA:A.all isD=true) (h0:A ≠ []) (hF:F.all isD=true) (f0:F ≠ []) (hE:expR E=some q) (hh:∀ c m,E=c :: m->isD c=false):zFP n (A++46 :: (F++E))=putR n (dvN (A++F)) (q - F.length) false:=by
 obtain ⟨t1,t2⟩:=zCG hA (46 :: (F++E)) (fun c m e=>by cases e;decide);obtain ⟨p1,p2⟩:=zIF 46 (F++E);obtain ⟨u1,u2⟩:=zCG hF E hh;unfold zFP;simp only [t1,t2,p1,p2,u1,u2,if_true,hE,h0,f0,true_and,or_self,if_false]
theorem zPE (m:Nat) (h:m<10000):expR (69 :: 45 :: Lib.decDigits m)=some (-(m:Int)):=by
 obtain ⟨p1,p2⟩:=zIF 45 (Lib.decDigits m);have ha:=zIO m;obtain ⟨t1,t2⟩:=zCG ha [] (fun c m e=>by cases e);rw [List.append_nil] at t1 t2;have hl:=zAO 3 m (by omega);have hn:Lib.decDigits m ≠ []:=fun e=>by rw [e] at hl;simp at hl
 unfold expR;simp only [true_or,if_true,p1,p2];unfold expT;simp only [t1,t2,hn,false_or,ne_eq,not_true_eq_false,or_false,if_true,zIN];rw [if_neg (by omega)]
theorem zRM (m:Nat) (h:m<10000):expR (69 :: 43 :: Lib.decDigits m)=some (m:Int):=by
 obtain ⟨p1,p2⟩:=zIF 43 (Lib.decDigits m);have p3:Lib.hasPrefix (43 :: Lib.decDigits m) [45]=false:=zOG (fun c m e=>by cases e;decide);have ha:=zIO m;obtain ⟨t1,t2⟩:=zCG ha [] (fun c m e=>by cases e);rw [List.append_nil] at t1 t2;have hl:=zAO 3 m (by omega);have hn:Lib.decDigits m ≠ []:=fun e=>by rw [e] at hl;simp at hl
 unfold expR;simp only [true_or,if_true,p3,p2,Bool.false_eq_true,if_false];unfold expT;simp only [t1,t2,hn,false_or,ne_eq,not_true_eq_false,or_false,Bool.false_eq_true,if_false,zIN];rw [if_neg (by omega)]
theorem zJU {D:List UInt8} (h:D.all isD=true) (k:Nat):(D.take k).all isD=true/\(D.drop k).all isD=true:=by
 rw [<- List.take_append_drop k D,List.all_append,Bool.and_eq_true] at h;exact h
theorem zP0 (n:Bool) (u:Nat) (x:Int) (h1:u % 10 ≠ 0) (h2:u<1000000000000000) (x0 : -300<=x) (x1:x<=300):zFP n (zAL (Lib.decDigits u) x)=⟨true,n,u,x⟩:=by
 have hD:=zIO u;have hV:=zIN u;have hl:=zAO 14 u (by omega);have G:=fun e:Int=>zIE n u e h1 h2;obtain ⟨D,hDe⟩:=nm (Lib.decDigits u);rw [hDe] at hD hV hl ⊢;have hn:D ≠ []:=fun e=>by rw [e] at hl;simp at hl
 unfold zAL;by_cases c1:0<=x/\(D.length:Int) - 1+x<15
 ·rw [if_pos c1];have hA:(D++List.replicate x.toNat 48).all isD=true:=by rw [List.all_append,hD,zO7];rfl
  have:=zFN n (E:=[]) (q:=0) hA (by simp [hn]) rfl (fun c m e=>by cases e);rw [List.append_nil] at this;rw [this,zEZ,zO6,List.length_replicate,hV,Nat.add_zero,zOC,show (0:Int)+(x.toNat:Int)=x by omega];exact G x x0 x1
 ·rw [if_neg c1];by_cases c2:x<0/\0<=(D.length:Int) - 1+x
  ·rw [if_pos c2];obtain ⟨k,hk⟩:=nm (((D.length:Int) - 1+x+1).toNat);rw [hk];obtain ⟨a1,a2⟩:=zJU hD k;have:=zFO n (A:=D.take k) (F:=D.drop k) (E:=[]) (q:=0) a1 (fun e=>by have:=congrArg List.length e;rw [List.length_take,List.length_nil] at this;omega) a2 (fun e=>by have:=congrArg List.length e;rw [List.length_drop,List.length_nil] at this;omega) rfl (fun c m e=>by cases e);rw [List.append_nil] at this;rw [this,List.take_append_drop,hV,List.length_drop,show (0:Int) - ((D.length - k:Nat):Int)=x by omega];exact G x x0 x1
  ·rw [if_neg c2];by_cases c3:x<0 /\ -5<=(D.length:Int) - 1+x
   ·rw [if_pos c3];obtain ⟨k,hk⟩:=nm ((-((D.length:Int) - 1+x) - 1).toNat);rw [hk];have hA:(List.replicate k 48++D).all isD=true:=(by rw [List.all_append,hD,zO7];rfl);have:=zFO n (A:=[48]) (F:=List.replicate k 48++D) (E:=[]) (q:=0) (by decide) (by simp) hA (by simp [hn]) rfl (fun c m e=>by cases e);rw [List.append_nil] at this;rw [show (48:UInt8) :: 46 :: (List.replicate k 48++D)=[48]++46 :: (List.replicate k 48++D) from rfl,this,zEZ,zEZ,zO6,hV,show dvN [48]=0 from rfl,List.length_append,List.length_replicate];simp only [Nat.zero_mul,Nat.zero_add];rw [show (0:Int) - ((k+D.length:Nat):Int)=x by omega];exact G x x0 x1
   ·rw [if_neg c3];obtain ⟨E,hE,hx,hh⟩:∃ E,(if (D.length:Int) - 1+x<0 then 69 :: 45 :: Lib.decDigits (-((D.length:Int) - 1+x)).toNat else 69 :: 43 :: Lib.decDigits ((D.length:Int) - 1+x).toNat)=E/\expR E=some ((D.length:Int) - 1+x)/\∀ c m,E=c :: m->isD c=false/\c ≠ 46:=by
     by_cases cn:(D.length:Int) - 1+x<0
     ·refine ⟨_,if_pos cn,?_,fun c m e=>by cases e;decide⟩;rw [zPE _ (by omega)]
      congr 1
      omega
     ·refine ⟨_,if_neg cn,?_,fun c m e=>by cases e;decide⟩;rw [zRM _ (by omega)]
      congr 1
      omega
    rw [hE];obtain ⟨a1,a2⟩:=zJU hD 1;by_cases cl:1<D.length
    ·rw [if_pos cl];have:=zFO n (A:=D.take 1) (F:=D.drop 1) a1 (fun e=>by have:=congrArg List.length e;rw [List.length_take,List.length_nil] at this;omega) a2 (fun e=>by have:=congrArg List.length e;rw [List.length_drop,List.length_nil] at this;omega) hx (fun c m e=>(hh c m e).1);rw [List.append_assoc,List.cons_append,this,List.take_append_drop,hV,List.length_drop,show (D.length:Int) - 1+x - ((D.length - 1:Nat):Int)=x by omega];exact G x x0 x1
    ·rw [if_neg cl,List.append_nil,List.take_of_length_le (by omega),zFN n hD hn hx hh,hV,show (D.length:Int) - 1+x=x by omega];exact G x x0 x1
theorem zNW (u:Nat) (x:Int):∃ c m,zAL (Lib.decDigits u) x=c :: m/\isD c=true:=by
 have hD:=zIO u;cases hDe:Lib.decDigits u with
 | nil=>exact absurd hDe (fun e=>by have:=Lib.decDigits_length u;rw [e] at this;have:=zIN u;rw [e] at this;simp [dvN] at this;subst this;rw [Lib.decDigits_one (by omega)] at e;cases e)
 | cons c D =>
  rw [hDe,List.all_cons,Bool.and_eq_true] at hD;unfold zAL;by_cases c1:0<=x/\((c :: D).length:Int) - 1+x<15
  ·rw [if_pos c1];exact ⟨c,_,rfl,hD.1⟩
  ·rw [if_neg c1];by_cases c2:x<0/\0<=((c :: D).length:Int) - 1+x
   ·rw [if_pos c2];obtain ⟨k,hk⟩:∃ k,(((c :: D).length:Int) - 1+x+1).toNat=k+1:=⟨(((c :: D).length:Int) - 1+x).toNat,by omega⟩;rw [hk,List.take_succ_cons];exact ⟨c,_,rfl,hD.1⟩
   ·rw [if_neg c2];by_cases c3:x<0 /\ -5<=((c :: D).length:Int) - 1+x
    ·rw [if_pos c3];exact ⟨48,_,rfl,by decide⟩
    ·rw [if_neg c3];exact ⟨c,_,rfl,hD.1⟩
theorem zL3 (u:Nat) (x:Int) (h2:u<1000000000000000) (x0 : -300<=x) (x1:x<=300):(zAL (Lib.decDigits u) x).length<=50:=by
 have hl:=zAO 14 u (by omega);obtain ⟨D,hDe⟩:=nm (Lib.decDigits u);rw [hDe] at hl ⊢;unfold zAL
 split
 ·rw [List.length_append,List.length_replicate];omega
 ·split
  ·rw [List.length_append,List.length_cons,List.length_take,List.length_drop];omega
  ·split
   ·simp only [List.length_cons,List.length_append,List.length_replicate];omega
   ·have e1:∀ q:Nat,q<10000->(Lib.decDigits q).length<=4:=fun q hq=>(zAO 3 q (by omega)).2;rw [List.length_append,List.length_append,List.length_take];have a:(if 1<D.length then 46 :: D.drop 1 else []).length<=15:=by
     split
     ·rw [List.length_cons,List.length_drop];omega
     ·simp
    have b:(if (D.length:Int) - 1+x<0 then 69 :: 45 :: Lib.decDigits (-((D.length:Int) - 1+x)).toNat else 69 :: 43 :: Lib.decDigits ((D.length:Int) - 1+x).toNat).length<=6:=by
     split
     ·have:=e1 (-((D.length:Int) - 1+x)).toNat (by omega);simp only [List.length_cons];omega
     ·have:=e1 ((D.length:Int) - 1+x).toNat (by omega);simp only [List.length_cons];omega
    omega
theorem zO9 {n:Bool} {d x:Int} (hg:zA1 n d x=true):zAU (zBW n d x)=⟨true,n,d,x⟩:=by
 unfold zBW;rw [if_pos hg];unfold zA1 at hg;by_cases h0:d=0
 ·subst h0;rw [if_pos rfl] at hg ⊢;simp only [Bool.and_eq_true,Bool.not_eq_true',decide_eq_true_eq] at hg;obtain ⟨rfl,rfl⟩:=hg;have:=zFN false (A:=[48]) (E:=[]) (q:=0) (by decide) (by simp) rfl (fun c m e=>by cases e);rw [List.append_nil] at this;unfold zAU;rw [if_neg (by decide)];rw [show Lib.hasPrefix [48] [45]=false from rfl,show Lib.trimPrefix [48] [45]=[48] from rfl,this];simp [putR,fitR,dvN,zD0]
 ·rw [if_neg h0] at hg ⊢;simp only [decide_eq_true_eq] at hg;obtain ⟨d1,d2,d3,x0,x1⟩:=hg;obtain ⟨u,rfl⟩:=Int.eq_ofNat_of_zero_le (show 0<=d by omega);rw [Int.toNat_natCast];have hm:=zP0 n u x (by omega) (by omega) x0 x1;have hl:=zL3 u x (by omega) x0 x1;obtain ⟨c,m,hc,hd⟩:=zNW u x;unfold zAU;cases n
  ·simp only [Bool.false_eq_true,if_false,List.nil_append];rw [if_neg (by omega)];have hp:Lib.hasPrefix (zAL (Lib.decDigits u) x) [45]=false:=zOG (fun c' m' e=>by rw [hc] at e;cases e;intro e;subst e;revert hd;decide);have ht:Lib.trimPrefix (zAL (Lib.decDigits u) x) [45]=zAL (Lib.decDigits u) x:=by unfold Lib.trimPrefix;rw [hp];rfl
   rw [hp,ht];exact hm
  ·obtain ⟨p1,p2⟩:=zIF 45 (zAL (Lib.decDigits u) x);rw [if_pos rfl,List.singleton_append,if_neg (by rw [List.length_cons];omega),p1,p2];exact hm
theorem zM0 {k:Int} {n:Bool} {d x:Int} {t:List UInt8} (hg:zA4 k n d x t=true) (hk:k=1\/k=3):zD1 (zHI k n d x t)=valV k n d x t:=by
 unfold zHI;rw [if_pos hg];unfold zCY
 rcases hk with rfl | rfl
 ·obtain ⟨gb,rfl⟩:=zCK hg;have hr:=zO9 gb;rw [if_neg (by decide),if_pos rfl];unfold zD1;rw [hr];have hne:(zBW n d x == [])=false:=by
   cases h:zBW n d x with
   | nil =>
    rw [h] at hr;have e:(zAU []).ok=true:=congrArg DR.ok hr;exact absurd e (by decide)
   | cons c m=>rfl
  rw [hne];rfl
 ·rw [if_neg (by decide),if_neg (by decide)];obtain ⟨rfl,rfl,rfl⟩:=zC0 hg (by decide);have hb:zE9 t=true:=(show zCR false 0 0=true/\zE9 t=true by simpa [zA4] using hg).2;have:t=[84,82,85,69]\/t=[70,65,76,83,69]:=by simpa [zE9] using hb
  rcases this with rfl | rfl
  ·have e1:(zAU [84,82,85,69]).ok=false:=by decide
   unfold zD1;rw [e1];rfl
  ·have e1:(zAU [70,65,76,83,69]).ok=false:=by decide
   unfold zD1;rw [e1];rfl
theorem zX5 (k:Int) (n:Bool) (d x:Int) (t:List UInt8) (k':Int) (n':Bool) (d' x':Int) (t':List UInt8) (f p:Nat) (HF:∀ ar w,(callFunc f ar).run Tryz.prog w=.ok (.enter f ar) w) (w:World) (hp:w.cell? ⟨p,0,none⟩=some (fnV f)) {k2:Int} {n2:Bool} {d2 x2:Int} {t2:List UInt8}
  (H:∀ w1,Ext w w1->Calls Tryz.prog f #[decV n d x,decV n' d' x'] w1 fun e w'=>e=.returned (valV k2 n2 d2 x2 t2)/\Ext w1 w') :
  Calls Tryz.prog 203 #[valV k n d x t,valV k' n' d' x' t',.pointer (some ⟨p,0,none⟩)] w fun e w'=>e=.returned (valV k2 n2 d2 x2 t2)/\Ext w w':=by
 obtain ⟨u0,u1,u2,h0,h1,h2,s0,s1,s2,B0,B1,B2,X⟩:=mkB3 w [iQ k,.bool n,iQ d,iQ x,sV t] [iQ k',.bool n',iQ d',iQ x',sV t'] [iQ 0,.bool false,iQ 0,iQ 0,sV []] 26 26 26;obtain ⟨a0,a1,a2,a3,a4⟩:=Vec.five (B0);obtain ⟨c0,c1,c2,c3,c4⟩:=Vec.five (B1);have q0:=cell_later X hp;go_enter Tryz.func203,Tryz.ntmps203;go_wp2_with fail;clear h0 s0 h1 s1 h2 s2 a0 a1 a2 a3 a4 c0 c1 c2 c3 c4 q0;refine (H u2 X).mono ?_;rintro e w1 ⟨rfl,e1⟩;obtain ⟨wy,hy,FX,⟨b0,b1,b2,b3,b4⟩,⟨fb0,fb1,fb2,fb3,fb4⟩,fd0,fd1,fd2,fd3,fd4⟩:=fin5 (B2.l e1) (xt X e1) (by omega) k2 n2 d2 x2 t2;go_wp2_with fail;exact bodyPost_ret (v:=valV k2 n2 d2 x2 t2) (by simp [results,Tryz.results203,go_sem,fd0,fd1,fd2,fd3,fd4]) rfl ⟨rfl,FX⟩
theorem zTF (k:Int) (n:Bool) (d x:Int) (t:List UInt8) (k':Int) (n':Bool) (d' x':Int) (t':List UInt8) (f:Nat) (w:World) (ka:Int) (na:Bool) (da xa:Int) (ta:List UInt8) (kb:Int) (nb:Bool) (db xb:Int) (tb:List UInt8) {k2:Int} {n2:Bool} {d2 x2:Int} {t2:List UInt8}
  (HA:∀ w1,Ext w w1->Calls Tryz.prog 89 #[valV k n d x t] w1 fun e w'=>e=.returned (valV ka na da xa ta)/\Ext w1 w')
  (HB:∀ w1,Ext w w1->Calls Tryz.prog 89 #[valV k' n' d' x' t'] w1 fun e w'=>e=.returned (valV kb nb db xb tb)/\Ext w1 w')
  (HO:∀ w1 p,Ext w w1->w1.cell? ⟨p,0,none⟩=some (fnV f)->Calls Tryz.prog 64 #[.func (.func 203) #[] #[.pointer (some ⟨p,0,none⟩)],valV ka na da xa ta,valV kb nb db xb tb] w1 fun e w'=>e=.returned (valV k2 n2 d2 x2 t2)/\Ext w1 w') :
  Calls Tryz.prog 150 #[valV k n d x t,valV k' n' d' x' t',fnV f] w fun e w'=>e=.returned (valV k2 n2 d2 x2 t2)/\Ext w w':=by
 obtain ⟨u0,u1,u2,u3,h0,h1,h2,h3,s0,s1,s2,s3,B0,B1,B2,B3,X⟩:=mkB4 w [iQ k,.bool n,iQ d,iQ x,sV t] [iQ k',.bool n',iQ d',iQ x',sV t'] [fnV f] [iQ 0,.bool false,iQ 0,iQ 0,sV []] 26 26 155 26;obtain ⟨a0,a1,a2,a3,a4⟩:=Vec.five (B0);obtain ⟨c0,c1,c2,c3,c4⟩:=Vec.five (B1);go_enter Tryz.func150,Tryz.ntmps150;go_wp2_with fail;clear h0 s0 h1 s1 h2 s2 h3 s3 a0 a1 a2 a3 a4 c0 c1 c2 c3 c4;refine zA2 (fun lx:Nat->Value=>{ tmps:=#[valV k n d x t,valV k' n' d' x' t',fnV f,Value.pointer (some ⟨w.heap.size,0,none⟩),Value.pointer (some ⟨w.heap.size+1,0,none⟩),Value.pointer (some ⟨w.heap.size+1+1,0,none⟩),Value.pointer (some ⟨w.heap.size+1+1+1,0,none⟩),Value.func (Fn.func 203) #[] #[Value.pointer (some ⟨w.heap.size+1+1,0,none⟩)],Value.func (Fn.func 203) #[] #[Value.pointer (some ⟨w.heap.size+1+1,0,none⟩)],lx 9,lx 10,lx 11,lx 12,lx 13,lx 14],defers:=[] }) (fun L lx lw=>Hid (Ext w lw/\Vec lw (w.heap.size) [iQ k,.bool n,iQ d,iQ x,sV t]/\Vec lw (w.heap.size+1) [iQ k',.bool n',iQ d',iQ x',sV t']/\Vec lw (w.heap.size+1+1) [fnV f]/\(L 0=true->lx 9=Value.func (Fn.func 203) #[] #[Value.pointer (some ⟨w.heap.size+1+1,0,none⟩)])/\(L 1=true->lx 10=valV k n d x t)/\(L 2=true->lx 11=valV ka na da xa ta)/\(L 3=true->lx 12=valV k' n' d' x' t')/\(L 4=true->lx 13=valV kb nb db xb tb)/\(L 5=true->lx 14=valV k2 n2 d2 x2 t2)/\(L 6=false->Vec lw (w.heap.size+1+1+1) [iQ 0,.bool false,iQ 0,iQ 0,sV []])/\(L 6=true->Vec lw (w.heap.size+1+1+1) [iQ k2,.bool n2,iQ d2,iQ x2,sV t2]))) rfl (by kernel_rfl) (fun jj=>undef) rfl ?_ ?_ ?_
 ·exact ⟨xd X,B0.l (xd (xr _)),B1.l (xd (xr _)),B2.l (xd (xr _)),(fun h=>by cases h),(fun h=>by cases h),(fun h=>by cases h),(fun h=>by cases h),(fun h=>by cases h),(fun h=>by cases h),fun _=>B3.l (xd (xr _)),(fun h=>by cases h)⟩
 ·intro L lx wl i o K hK ho hL haf hI;obtain ⟨X,f0,f1,f2,f3,f4,f5,f6,f7,f8,f9,f10⟩:=hI.out
  match i,ho,hL,haf,hK with
  | 0,ho,hL,haf,hK =>
   cases ho
   (try dsimp only)
   go_wp2_with fail;exact hK (fun jj=>if jj=9 then Value.func (Fn.func 203) #[] #[Value.pointer (some ⟨w.heap.size+1+1,0,none⟩)] else lx jj) _ ⟨X,f0,f1,f2,(fun _=>rfl),f4,f5,f6,f7,f8,f9,f10⟩
  | 1,ho,hL,haf,hK =>
   cases ho
   (try dsimp only)
   obtain ⟨a0,a1,a2,a3,a4⟩:=Vec.five (f0);go_wp2_with fail;exact hK (fun jj=>if jj=10 then valV k n d x t else lx jj) _ ⟨X,f0,f1,f2,f3,(fun _=>rfl),f5,f6,f7,f8,f9,f10⟩
  | 2,ho,hL,haf,hK =>
   cases ho
   (try dsimp only)
   rw [f4 (haf ⟨1,.data⟩ (by simp) rfl)];go_wp2_with fail;refine (HA wl X).mono ?_;rintro rr w' ⟨rfl,E⟩;go_wp2_with fail;exact hK (fun jj=>if jj=11 then valV ka na da xa ta else if jj=10 then valV k n d x t else lx jj) _ ⟨xt X E,(f0.l E),(f1.l E),(f2.l E),f3,(fun _=>rfl),(fun _=>rfl),f6,f7,f8,(fun h=>(f9 h).l E),(fun h=>(f10 h).l E)⟩
  | 3,ho,hL,haf,hK =>
   cases ho
   (try dsimp only)
   obtain ⟨a0,a1,a2,a3,a4⟩:=Vec.five (f1);go_wp2_with fail;exact hK (fun jj=>if jj=12 then valV k' n' d' x' t' else lx jj) _ ⟨X,f0,f1,f2,f3,f4,f5,(fun _=>rfl),f7,f8,f9,f10⟩
  | 4,ho,hL,haf,hK =>
   cases ho
   (try dsimp only)
   rw [f6 (haf ⟨3,.data⟩ (by simp) rfl)];go_wp2_with fail;refine (HB wl X).mono ?_;rintro rr w' ⟨rfl,E⟩;go_wp2_with fail;exact hK (fun jj=>if jj=13 then valV kb nb db xb tb else if jj=12 then valV k' n' d' x' t' else lx jj) _ ⟨xt X E,(f0.l E),(f1.l E),(f2.l E),f3,f4,f5,(fun _=>rfl),(fun _=>rfl),f8,(fun h=>(f9 h).l E),(fun h=>(f10 h).l E)⟩
  | 5,ho,hL,haf,hK =>
   cases ho
   (try dsimp only)
   rw [f3 (haf ⟨0,.data⟩ (by simp) rfl),f5 (haf ⟨2,.data⟩ (by simp) rfl),f7 (haf ⟨4,.data⟩ (by simp) rfl)];go_wp2_with fail;refine (HO wl _ X (f2 0 _ rfl).1).mono ?_;rintro rr w' ⟨rfl,E⟩;go_wp2_with fail;exact hK (fun jj=>if jj=14 then valV k2 n2 d2 x2 t2 else if jj=9 then Value.func (Fn.func 203) #[] #[Value.pointer (some ⟨w.heap.size+1+1,0,none⟩)] else if jj=11 then valV ka na da xa ta else if jj=13 then valV kb nb db xb tb else lx jj) _ ⟨xt X E,(f0.l E),(f1.l E),(f2.l E),(fun _=>rfl),f4,(fun _=>rfl),f6,(fun _=>rfl),(fun _=>rfl),(fun h=>(f9 h).l E),(fun h=>(f10 h).l E)⟩
  | 6,ho,hL,haf,hK =>
   cases ho
   (try dsimp only)
   rw [f8 (haf ⟨5,.data⟩ (by simp) rfl)];have bx:=f9 hL;obtain ⟨b0,b1,b2,b3,b4⟩:=Vec.five (bx);obtain ⟨fb0,fb1,fb2,fb3,fb4⟩:=Vec.fiveF (bx);have hX:=Ext.setL (b:=w.heap.size+1+1+1) (by omega) [iQ k2,.bool n2,iQ d2,iQ x2,sV t2] 0 X;have hB:=bx.put5 (iQ k2) (.bool n2) (iQ d2) (iQ x2) (sV t2);go_wp2_with fail;exact hK (fun jj=>if jj=14 then valV k2 n2 d2 x2 t2 else lx jj) _ ⟨hX,(Vec.farL (k:=w.heap.size+1+1+1) (by omega) [iQ k2,.bool n2,iQ d2,iQ x2,sV t2] 0 f0),(Vec.farL (k:=w.heap.size+1+1+1) (by omega) [iQ k2,.bool n2,iQ d2,iQ x2,sV t2] 0 f1),(Vec.farL (k:=w.heap.size+1+1+1) (by omega) [iQ k2,.bool n2,iQ d2,iQ x2,sV t2] 0 f2),f3,f4,f5,f6,f7,(fun _=>rfl),(fun h=>by cases h),(fun _=>hB)⟩
  | k+7,ho,_,_,_=>simp at ho
 ·intro L lx wr hall hI;obtain ⟨XR,f0,f1,f2,f3,f4,f5,f6,f7,f8,f9,f10⟩:=hI.out;clear hI;have G0:=f0;have G1:=f1;have G2:=f2;replace f3:=f3 (hall 0 (by simp));replace f4:=f4 (hall 1 (by simp));replace f5:=f5 (hall 2 (by simp));replace f6:=f6 (hall 3 (by simp));replace f7:=f7 (hall 4 (by simp));replace f8:=f8 (hall 5 (by simp));have BR:=f10 (hall 6 (by simp))
  (try dsimp only)
  rw [f3,f4,f5,f6,f7,f8];clear hall f0 f1 f2 f3 f4 f5 f6 f7 f8 f9 f10;obtain ⟨fd0,fd1,fd2,fd3,fd4⟩:=Vec.five (BR);clear BR HA HB HO B0 B1 B2 B3;go_wp2_with fail;exact bodyPost_ret (v:=valV k2 n2 d2 x2 t2) (by simp [results,Tryz.results150,go_sem,fd0,fd1,fd2,fd3,fd4]) rfl ⟨rfl,XR⟩
theorem zJ9 (r:DR) (w:World):Calls Tryz.prog 152 #[resV r] w fun rr w'=>rr=.returned (putV r)/\Ext w w':=by
 obtain ⟨ok,rn,rd,re⟩:=r;cases ok
 ·change Calls _ _ _ _ fun rr w'=>rr=.returned (valV 4 false 0 0 zA3)/\_;obtain ⟨u0,u1,h0,h1,s0,s1,B0,B1,X⟩:=mkB2 w [.bool false,.bool rn,iQ rd,iQ re] [iQ 0,.bool false,iQ 0,iQ 0,sV []] 79 26;obtain ⟨a0,a1,a2,a3⟩:=Vec.four (B0);go_enter Tryz.func152,Tryz.ntmps152;go_wp2_with fail;clear h0 s0 h1 s1 a0 a1 a2 a3;refine (zDL zA3 u1).mono ?_;rintro rr w1 ⟨rfl,e1⟩;obtain ⟨wy,hy,FX,⟨b0,b1,b2,b3,b4⟩,⟨fb0,fb1,fb2,fb3,fb4⟩,fd0,fd1,fd2,fd3,fd4⟩:=fin5 (B1.l e1) (xt X e1) (by omega) 4 false 0 0 zA3;go_wp2_with fail;exact bodyPost_ret (v:=valV 4 false 0 0 zA3) (by simp [results,Tryz.results152,go_sem,fd0,fd1,fd2,fd3,fd4]) rfl ⟨rfl,FX⟩
 ·change Calls _ _ _ _ fun rr w'=>rr=.returned (valV 1 rn rd re [])/\_;obtain ⟨u0,u1,h0,h1,s0,s1,B0,B1,X⟩:=mkB2 w [.bool true,.bool rn,iQ rd,iQ re] [iQ 0,.bool false,iQ 0,iQ 0,sV []] 79 26;obtain ⟨a0,a1,a2,a3⟩:=Vec.four (B0);go_enter Tryz.func152,Tryz.ntmps152;go_wp2_with fail;clear h0 s0 h1 s1 a0 a1 a2 a3;refine (zKB rn rd re u1).mono ?_;rintro rr w1 ⟨rfl,e1⟩;obtain ⟨wy,hy,FX,⟨b0,b1,b2,b3,b4⟩,⟨fb0,fb1,fb2,fb3,fb4⟩,fd0,fd1,fd2,fd3,fd4⟩:=fin5 (B1.l e1) (xt X e1) (by omega) 1 rn rd re [];go_wp2_with fail;exact bodyPost_ret (v:=valV 1 rn rd re []) (by simp [results,Tryz.results152,go_sem,fd0,fd1,fd2,fd3,fd4]) rfl ⟨rfl,FX⟩
theorem zVT (n:Bool) (d e:Int) (n':Bool) (d' e':Int) (w:World) (a1 : -9223372036854775808<=d) (a2:d<=9223372036854775807) (b1 : -9223372036854775808<=d') (b2:d'<=9223372036854775807) (hT:Tens w) :
  Calls Tryz.prog 151 #[decV n d e,decV n' d' e'] w fun rr w'=>rr=.returned (putV (addR n d e n' d' e'))/\Ext w w':=by
 obtain ⟨k2,n2,d2,x2,t2,hv⟩:=zC1 (addR n d e n' d' e');have HV:Hid (putV (addR n d e n' d' e')=valV k2 n2 d2 x2 t2):=hv;rw [hv];clear hv;obtain ⟨u0,u1,u2,h0,h1,h2,s0,s1,s2,B0,B1,B2,X⟩:=mkB3 w [.bool n,iQ d,iQ e] [.bool n',iQ d',iQ e'] [iQ 0,.bool false,iQ 0,iQ 0,sV []] 24 24 26;obtain ⟨a0,a1,a2⟩:=Vec.three (B0);obtain ⟨c0,c1,c2⟩:=Vec.three (B1);go_enter Tryz.func151,Tryz.ntmps151;go_wp2_with fail;clear h0 s0 h1 s1 h2 s2 a0 a1 a2 c0 c1 c2;refine (addI n n' d e d' e' u2 a1 a2 b1 b2 (hT.l X)).mono ?_;rintro rr w1 ⟨rfl,e1⟩;go_wp2_with fail;refine (zJ9 (addR n d e n' d' e') w1).mono ?_;rintro rr w2 ⟨rfl,e2⟩;rw [HV.out];obtain ⟨wy,hy,FX,⟨b0,b1,b2,b3,b4⟩,⟨fb0,fb1,fb2,fb3,fb4⟩,fd0,fd1,fd2,fd3,fd4⟩:=fin5 ((B2.l e1).l e2) (xt (xt X e1) e2) (by omega) k2 n2 d2 x2 t2;go_wp2_with fail;exact bodyPost_ret (v:=valV k2 n2 d2 x2 t2) (by simp [results,Tryz.results151,go_sem,fd0,fd1,fd2,fd3,fd4]) rfl ⟨rfl,FX⟩
theorem zTN (n:Bool) (d e:Int) (n':Bool) (d' e':Int) (w:World) (a1 : -9223372036854775808<=d) (a2:d<=9223372036854775807) (b1 : -9223372036854775808<=d') (b2:d'<=9223372036854775807) (hT:Tens w) :
  Calls Tryz.prog 154 #[decV n d e,decV n' d' e'] w fun rr w'=>rr=.returned (putV (subR n d e n' d' e'))/\Ext w w':=by
 obtain ⟨k2,n2,d2,x2,t2,hv⟩:=zC1 (subR n d e n' d' e');have HV:Hid (putV (subR n d e n' d' e')=valV k2 n2 d2 x2 t2):=hv;rw [hv];clear hv;obtain ⟨u0,u1,u2,h0,h1,h2,s0,s1,s2,B0,B1,B2,X⟩:=mkB3 w [.bool n,iQ d,iQ e] [.bool n',iQ d',iQ e'] [iQ 0,.bool false,iQ 0,iQ 0,sV []] 24 24 26;obtain ⟨a0,a1,a2⟩:=Vec.three (B0);obtain ⟨c0,c1,c2⟩:=Vec.three (B1);go_enter Tryz.func154,Tryz.ntmps154;go_wp2_with fail;clear h0 s0 h1 s1 h2 s2 a0 a1 a2 c0 c1 c2;refine (subI n n' d e d' e' u2 a1 a2 b1 b2 (hT.l X)).mono ?_;rintro rr w1 ⟨rfl,e1⟩;go_wp2_with fail;refine (zJ9 (subR n d e n' d' e') w1).mono ?_;rintro rr w2 ⟨rfl,e2⟩;rw [HV.out];obtain ⟨wy,hy,FX,⟨b0,b1,b2,b3,b4⟩,⟨fb0,fb1,fb2,fb3,fb4⟩,fd0,fd1,fd2,fd3,fd4⟩:=fin5 ((B2.l e1).l e2) (xt (xt X e1) e2) (by omega) k2 n2 d2 x2 t2;go_wp2_with fail;exact bodyPost_ret (v:=valV k2 n2 d2 x2 t2) (by simp [results,Tryz.results154,go_sem,fd0,fd1,fd2,fd3,fd4]) rfl ⟨rfl,FX⟩
theorem zT0 (n:Bool) (d e:Int) (n':Bool) (d' e':Int) (w:World) (a1 : -9223372036854775808<=d) (a2:d<=9223372036854775807) (b1 : -9223372036854775808<=d') (b2:d'<=9223372036854775807) (hT:Tens w) :
  Calls Tryz.prog 156 #[decV n d e,decV n' d' e'] w fun rr w'=>rr=.returned (putV (mulR n d e n' d' e'))/\Ext w w':=by
 obtain ⟨k2,n2,d2,x2,t2,hv⟩:=zC1 (mulR n d e n' d' e');have HV:Hid (putV (mulR n d e n' d' e')=valV k2 n2 d2 x2 t2):=hv;rw [hv];clear hv;obtain ⟨u0,u1,u2,h0,h1,h2,s0,s1,s2,B0,B1,B2,X⟩:=mkB3 w [.bool n,iQ d,iQ e] [.bool n',iQ d',iQ e'] [iQ 0,.bool false,iQ 0,iQ 0,sV []] 24 24 26;obtain ⟨a0,a1,a2⟩:=Vec.three (B0);obtain ⟨c0,c1,c2⟩:=Vec.three (B1);go_enter Tryz.func156,Tryz.ntmps156;go_wp2_with fail;clear h0 s0 h1 s1 h2 s2 a0 a1 a2 c0 c1 c2;refine (mulI n n' d e d' e' u2 a1 a2 b1 b2 (hT.l X)).mono ?_;rintro rr w1 ⟨rfl,e1⟩;go_wp2_with fail;refine (zJ9 (mulR n d e n' d' e') w1).mono ?_;rintro rr w2 ⟨rfl,e2⟩;rw [HV.out];obtain ⟨wy,hy,FX,⟨b0,b1,b2,b3,b4⟩,⟨fb0,fb1,fb2,fb3,fb4⟩,fd0,fd1,fd2,fd3,fd4⟩:=fin5 ((B2.l e1).l e2) (xt (xt X e1) e2) (by omega) k2 n2 d2 x2 t2;go_wp2_with fail;exact bodyPost_ret (v:=valV k2 n2 d2 x2 t2) (by simp [results,Tryz.results156,go_sem,fd0,fd1,fd2,fd3,fd4]) rfl ⟨rfl,FX⟩
theorem zVW (n:Bool) (d e:Int) (n':Bool) (d' e':Int) (w:World) (a1 : -9223372036854775808<=d) (a2:d<=9223372036854775807) (b1 : -9223372036854775808<=d') (b2:d'<=9223372036854775807) (hT:Tens w) (gb:zA1 n' d' e'=true) :
  Calls Tryz.prog 158 #[decV n d e,decV n' d' e'] w fun rr w'=>rr=.returned (if d'=0 then evV divT else putV (divR n d e n' d' e'))/\Ext w w':=by
 by_cases h0:d'=0
 ·rw [if_pos h0];subst h0;obtain ⟨rfl,rfl⟩:n'=false/\e'=0:=by simpa [zA1] using gb
  clear gb;obtain ⟨u0,u1,u2,h0,h1,h2,s0,s1,s2,B0,B1,B2,X⟩:=mkB3 w [.bool n,iQ d,iQ e] [.bool false,iQ 0,iQ 0] [iQ 0,.bool false,iQ 0,iQ 0,sV []] 24 24 26;obtain ⟨a0,a1,a2⟩:=Vec.three (B0);obtain ⟨c0,c1,c2⟩:=Vec.three (B1);go_enter Tryz.func158,Tryz.ntmps158;go_wp2_with fail;clear h0 s0 h1 s1 h2 s2 a0 a1 a2 c0 c1 c2;refine (zDL divT u2).mono ?_;rintro rr w1 ⟨rfl,e1⟩;obtain ⟨wy,hy,FX,⟨b0,b1,b2,b3,b4⟩,⟨fb0,fb1,fb2,fb3,fb4⟩,fd0,fd1,fd2,fd3,fd4⟩:=fin5 (B2.l e1) (xt X e1) (by omega) 4 false 0 0 divT;go_wp2_with fail;exact bodyPost_ret (v:=valV 4 false 0 0 divT) (by simp [results,Tryz.results158,go_sem,fd0,fd1,fd2,fd3,fd4]) rfl ⟨rfl,FX⟩
 ·rw [if_neg h0];clear gb;have hd:(d' == 0)=false:=by simpa using h0
  obtain ⟨k2,n2,d2,x2,t2,hv⟩:=zC1 (divR n d e n' d' e');have HV:Hid (putV (divR n d e n' d' e')=valV k2 n2 d2 x2 t2):=hv;rw [hv];clear hv;obtain ⟨u0,u1,u2,h0,h1,h2,s0,s1,s2,B0,B1,B2,X⟩:=mkB3 w [.bool n,iQ d,iQ e] [.bool n',iQ d',iQ e'] [iQ 0,.bool false,iQ 0,iQ 0,sV []] 24 24 26;obtain ⟨a0,a1,a2⟩:=Vec.three (B0);obtain ⟨c0,c1,c2⟩:=Vec.three (B1);go_enter Tryz.func158,Tryz.ntmps158;go_wp2_with fail;clear h0 s0 h1 s1 h2 s2 a0 a1 a2 c0 c1 c2;refine (divI n n' d e d' e' u2 a1 a2 b1 b2 (hT.l X)).mono ?_;rintro rr w1 ⟨rfl,e1⟩;go_wp2_with fail;refine (zJ9 (divR n d e n' d' e') w1).mono ?_;rintro rr w2 ⟨rfl,e2⟩;rw [HV.out];obtain ⟨wy,hy,FX,⟨b0,b1,b2,b3,b4⟩,⟨fb0,fb1,fb2,fb3,fb4⟩,fd0,fd1,fd2,fd3,fd4⟩:=fin5 ((B2.l e1).l e2) (xt (xt X e1) e2) (by omega) k2 n2 d2 x2 t2;go_wp2_with fail;exact bodyPost_ret (v:=valV k2 n2 d2 x2 t2) (by simp [results,Tryz.results158,go_sem,fd0,fd1,fd2,fd3,fd4]) rfl ⟨rfl,FX⟩
end Go.Proofs.YtkadkfmidlhedaaGreatDoor

