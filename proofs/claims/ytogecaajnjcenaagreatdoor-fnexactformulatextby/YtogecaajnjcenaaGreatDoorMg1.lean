/-
  Several texts in one: FrameB, AdN, Ref, FrameR, Vek, Sv1, Fa.
-/
import Derived.Test.YtogecaajnjcenaaGreatDoorRows
import Derived.Test.YtogecaajnjcenaaGreatDoorBase
import Derived.WalkKit
import Derived.ProofKit
import Derived.OpenShut
import Derived.WalkSmall
import Derived.Lib.SmallJoins
import Derived.Deep.DeepHandedRow
import Derived.Lib.LaidTab
import Derived.Lib.Bytealg
import Derived.Laws.IdiomStrings
namespace Go.Proofs.YtogecaajnjcenaaGreatDoor
open Go.ChangeShapes Go.WideShapes Go.ChangeAt Go.RowKit
theorem own:ownKnob Tryz.prog.godebug=none:=by kernel_rfl
theorem laidOut:laidOutB Tryz.prog=true:=by kernel_rfl
theorem vars_below {H:Type} {enc:TypeId × Value→H} {P:Program} (hl:laidOutB P=true) {W W':World} (bel:Below W.heap.size W W') :
  ∀ {ns:List String} {gs:List (DataW H)} {q:List MemPlace},(∀ n ∈ ns,∀ g t,P.globalNamed n=some g→(P.globals[g]?).map (·.type)=some t→P.readableRec t=true∧t<P.types.size) →
   (∀ x ∈ q,x.block<W.heap.size)→DataW.TrodVars enc P W (fun _=>true) ns gs q→DataW.TrodVars enc P W' (fun b=>decide (b<W.heap.size)) ns gs q
 | [],[],_,_,_,h=>h
 | [],_ :: _,_,_,_,h=>h.elim
 | _ :: _,[],_,_,_,h=>h.elim
 | n :: ns,d :: ds,q,hr,hlt,h=>by
  obtain ⟨g,t,cs,fuel,p,r,h1,h2,h3,h4,h5,rfl⟩:=h;obtain ⟨r1,r2⟩:=hr n (by simp) g t h1 h2;have hg:g<W.heap.size:=by
   unfold World.var? at h3;simp only [h1,Option.bind_some] at h3;by_cases hk:g<W.heap.size
   ·exact hk
   ·rw [Array.getElem?_eq_none (by omega)] at h3;cases h3
  refine ⟨g,t,cs,fuel,p,r,h1,h2,var?_below bel h1 hg h3,?_,?_,rfl⟩
  ·exact DataW.trod_stays (kids_book hl r1) (book_sized r1) (fun h=>by cases h) ⟨r2,book_self t⟩ h4 (fun x hx=>bel.same (hlt x (by simp [hx]))) (fun x hx=>by simpa using hlt x (by simp [hx]))
  ·exact vars_below hl bel (fun m hm=>hr m (by simp [hm])) (fun x hx=>hlt x (by simp [hx])) h5
theorem trod_elem {H:Type} {enc:TypeId × Value→H} {P:Program} {w:World} {base:Nat} {sp:Nat→Bool} {held:Bool} {fuel:Nat} {t e:TypeId} {n:Nat} {cs:List Value} {ds:List (DataW H)} {p:List MemPlace}
  (ht:P.underlying t=some (.array n e)) (h:DataW.trod enc P w base sp held fuel t cs=some (.agg ds,p)) (i:Nat) (hi:i<n) (d:DataW H) (hd:ds[i]?=some d) :
  ∃ fuel' p',DataW.trod enc P w base sp held fuel' e ((cs.drop (i * P.cellsOf e)).take (P.cellsOf e))=some (d,p'):=by
 cases fuel with
 | zero=>simp [DataW.trod] at h
 | succ fuel =>
  simp only [DataW.trod,ht] at h
  split at h
  ·obtain ⟨xs,hm,hx⟩:=Option.map_eq_some_iff.1 h;obtain ⟨b,hb,hf⟩:=Lib.mapM_at hm i i (by simp [hi]);have e1:xs.map (·.1)=ds:=by
    have:=congrArg Prod.fst hx;simpa using this
   rw [← e1,List.getElem?_map,hb] at hd;simp only [Option.map_some,Option.some.injEq] at hd;subst hd;exact ⟨fuel,b.2,hf⟩
  ·cases h
theorem trod_field {H:Type} {enc:TypeId × Value→H} {P:Program} {w:World} {base:Nat} {sp:Nat→Bool} {held:Bool} {fuel:Nat} {t:TypeId} {fs:Array Field} {cs:List Value} {ds:List (DataW H)} {p:List MemPlace}
  (ht:P.underlying t=some (.struct fs)) (h:DataW.trod enc P w base sp held fuel t cs=some (.agg ds,p)) (i:Nat) (f:Field) (hf:fs.toList[i]?=some f) (d:DataW H) (hd:ds[i]?=some d) :
  ∃ fuel' p',DataW.trod enc P w base sp held fuel' f.type ((cs.drop f.offset).take (P.cellsOf f.type))=some (d,p'):=by
 cases fuel with
 | zero=>simp [DataW.trod] at h
 | succ fuel =>
  simp only [DataW.trod,ht] at h
  split at h
  ·obtain ⟨xs,hm,hx⟩:=Option.map_eq_some_iff.1 h;obtain ⟨b,hb,hf'⟩:=Lib.mapM_at hm i f hf;have e1:xs.map (·.1)=ds:=by
    have:=congrArg Prod.fst hx;simpa using this
   rw [← e1,List.getElem?_map,hb] at hd;simp only [Option.map_some,Option.some.injEq] at hd;subst hd;exact ⟨fuel,b.2,hf'⟩
  ·cases h
end Go.Proofs.YtogecaajnjcenaaGreatDoor

namespace Go.Proofs.YtogecaajnjcenaaGreatDoor
open Go.RowKit
def colN (n:Nat):List UInt8:=if n≤26 then [UInt8.ofNat (64+n)] else [UInt8.ofNat (64+(n - 1) / 26),UInt8.ofNat (65+(n - 1) % 26)]
def colName (n:Int):List UInt8:=if 1≤n∧n≤200 then colN n.toNat else []
def isLet (c:UInt8):Bool:=decide (65≤c.toNat∧c.toNat≤90)
def lstep (a:Nat) (c:UInt8):Nat:=a * 26+(c.toNat - 64)
def valF (acc:Nat) (l:List UInt8):Nat:=l.foldl lstep acc
theorem valF_nil (acc:Nat):valF acc []=acc:=by unfold valF;exact List.foldl_nil
theorem valF_cons (acc:Nat) (c:UInt8) (r:List UInt8):valF acc (c :: r)=valF (acc * 26+(c.toNat - 64)) r:=by unfold valF;rw [List.foldl_cons,lstep]
theorem valF_app (acc:Nat) (a b:List UInt8):valF acc (a++b)=valF (valF acc a) b:=by unfold valF;rw [List.foldl_append]
def colV (l:List UInt8):Int:=if l.all isLet=true∧valF 0 l≤200 then valF 0 l else 0
def nameOf (m:Nat):List UInt8:=if m=0 then [] else colN m
theorem nameOf_step:∀ m:Nat,m<201→1≤m→nameOf m=nameOf ((m - 1) / 26)++[UInt8.ofNat (65+(m - 1) % 26)]:=by decide +kernel
theorem colN_val:∀ n:Nat,n<201→1≤n→valF 0 (colN n)=n∧(colN n).all isLet=true∧(colN n).length≤2∧1≤(colN n).length:=by decide +kernel
theorem valF_ge:∀ (l:List UInt8) (acc:Nat),l.all isLet=true→acc≤valF acc l∧(1≤l.length→acc * 26+1≤valF acc l)
 | [],acc,_=>⟨Nat.le_refl _,fun h=>absurd h (by decide)⟩
 | c :: r,acc,h=>by
  simp only [List.all_cons,Bool.and_eq_true,isLet,decide_eq_true_eq] at h;have:=(valF_ge r (acc * 26+(c.toNat - 64)) h.2).1;rw [valF_cons];omega
theorem valF_long {l:List UInt8} (h:l.all isLet=true) (hl:3≤l.length):200<valF 0 l:=by
 obtain ⟨a,b,c,r,rfl⟩:∃ a b c r,l=a :: b :: c :: r:=by
  cases l with
  | nil=>simp at hl
  | cons a l =>
   cases l with
   | nil=>simp at hl
   | cons b l =>
    cases l with
    | nil=>simp at hl
    | cons c r=>exact ⟨a,b,c,r,rfl⟩
 simp only [List.all_cons,Bool.and_eq_true,isLet,decide_eq_true_eq] at h;have:=(valF_ge r ((((0 * 26+(a.toNat - 64)) * 26)+(b.toNat - 64)) * 26+(c.toNat - 64)) h.2.2.2).1;rw [valF_cons,valF_cons,valF_cons];omega
theorem let_of {c:UInt8} (h:isLet c=true):∃ a:Nat,a<26∧c=UInt8.ofNat (65+a):=by
 simp only [isLet,decide_eq_true_eq] at h;refine ⟨c.toNat - 65,by omega,?_⟩;rw [show 65+(c.toNat - 65)=c.toNat by omega];simp
theorem colN_one:∀ a:Nat,a<26→colN (valF 0 [UInt8.ofNat (65+a)])=[UInt8.ofNat (65+a)]:=by decide +kernel
theorem colN_two:∀ a:Nat,a<26→∀ b:Nat,b<26→colN (valF 0 [UInt8.ofNat (65+a),UInt8.ofNat (65+b)])=[UInt8.ofNat (65+a),UInt8.ofNat (65+b)]:=by decide +kernel
theorem colN_of {l:List UInt8} (h:l.all isLet=true) (h1:1≤l.length) (h2:l.length≤2):colN (valF 0 l)=l:=by
 match l,h,h1,h2 with
 | [a],h,_,_ =>
  obtain ⟨x,hx,rfl⟩:=let_of (c:=a) (by simpa using h);exact colN_one x hx
 | [a,b],h,_,_ =>
  simp only [List.all_cons,Bool.and_eq_true] at h;obtain ⟨x,hx,rfl⟩:=let_of h.1;obtain ⟨y,hy,rfl⟩:=let_of h.2.1;exact colN_two x hx y hy
theorem colName_of {l:List UInt8} (h:l.all isLet=true) (hv:valF 0 l≤200):colName (valF 0 l)=l:=by
 have h2:l.length≤2:=by
  rcases Nat.lt_or_ge l.length 3 with k | k
  ·omega
  ·have:=valF_long h k;omega
 cases l with
 | nil=>rfl
 | cons a r =>
  have h1:=(valF_ge (a :: r) 0 h).2 (by simp);rw [colName,if_pos (by omega),Int.toNat_natCast];exact colN_of h (by simp) h2
theorem colV_colN {n:Int} (h1:1≤n) (h2:n≤200):colV (colN n.toNat)=n:=by
 obtain ⟨a,b,_,_⟩:=colN_val n.toNat (by omega) (by omega);rw [colV,if_pos ⟨b,by omega⟩,a];omega
theorem colV_spec {l t:List UInt8} (ht:t=l.take 4):(if colName (valF 0 t)=l then (valF 0 t:Int) else 0)=colV l:=by
 by_cases hg:l.all isLet=true∧valF 0 l≤200
 ·have h2:l.length≤2:=by
   rcases Nat.lt_or_ge l.length 3 with k | k
   ·omega
   ·have:=valF_long hg.1 k;omega
  have e:t=l:=by rw [ht,List.take_of_length_le (by omega)]
  rw [e,colName_of hg.1 hg.2,if_pos rfl,colV,if_pos hg]
 ·rw [colV,if_neg hg,if_neg];intro hc;apply hg;unfold colName at hc
  split at hc
  ·rename_i hr;obtain ⟨a,b,_,_⟩:=colN_val (valF 0 t:Int).toNat (by omega) (by omega);rw [hc] at a b;exact ⟨b,by omega⟩
  ·subst hc;exact ⟨rfl,by rw [valF_nil];omega⟩
theorem colV_bad {l t:List UInt8} (ht:t=l.take 4) (h:¬ t.all isLet=true):colV l=0:=by
 rw [colV,if_neg];intro hg;apply h;rw [ht];rw [List.all_eq_true] at hg ⊢;exact fun x hx=>hg.1 x (List.mem_of_mem_take hx)
theorem colV_cut {p r:List UInt8} {c:UInt8} (h:isLet c=false∨(p.all isLet=true∧isLet c=true∧200<valF 0 (p++[c]))):colV (p++c :: r)=0:=by
 rw [colV,if_neg];rintro ⟨h1,h2⟩
 rcases h with h | ⟨hp,hc,hv⟩
 ·simp [h] at h1
 ·have e:p++c :: r=(p++[c])++r:=by simp
  rw [e,valF_app] at h2;have:=(valF_ge r (valF 0 (p++[c])) (by rw [List.all_eq_true] at h1 ⊢;intro x hx;exact h1 x (by simp [hx]))).1;omega
theorem valF_snoc (p:List UInt8) (c:UInt8):valF 0 (p++[c])=valF 0 p * 26+(c.toNat - 64):=by
 rw [valF_app,valF_cons,valF_nil]
def letters:List UInt8:=[65,66,67,68,69,70,71,72,73,74,75,76,77,78,79,80,81,82,83,84,85,86,87,88,89,90]
theorem index_let:∀ n:Nat,n<256→Lib.indexByte letters (UInt8.ofNat n)=if 65≤n∧n≤90 then (n:Int) - 65 else -1:=by decide +kernel
theorem index_letter (c:UInt8):Lib.indexByte letters c=if isLet c then (c.toNat:Int) - 65 else -1:=by
 have h:=index_let c.toNat (UInt8.toNat_lt c);rw [UInt8.ofNat_toNat] at h;rw [h,isLet];simp
theorem contains_letter (c:UInt8):letters.contains c=isLet c:=by
 have h:∀ n:Nat,n<256→letters.contains (UInt8.ofNat n)=isLet (UInt8.ofNat n):=by decide +kernel
 have:=h c.toNat (UInt8.toNat_lt c)
 rwa [UInt8.ofNat_toNat] at this
abbrev refV (r c:Int) (rf cf:Bool):Value:=.agg #[.int .i64 r,.int .i64 c,.bool rf,.bool cf]
def goodRB (r c:Int):Bool:=decide ((1≤r∧r≤1000)∧(1≤c∧c≤200))
set_option maxHeartbeats 400000 in
theorem isRowI (n:Int) (w:World) :
  Calls Tryz.prog 47 #[.int .i64 n] w fun e w'=>e=.returned (.bool (decide (1≤n∧n≤1000)))∧w'=w:=by
 go_enter Tryz.func47,Tryz.ntmps47
 go_wp2
 all_goals go_ret
 all_goals refine ⟨ret_bool ?_,rfl⟩
 all_goals simp_all
 all_goals (intros;omega)
set_option maxHeartbeats 400000 in
theorem isColI (n:Int) (w:World) :
  Calls Tryz.prog 48 #[.int .i64 n] w fun e w'=>e=.returned (.bool (decide (1≤n∧n≤200)))∧w'=w:=by
 go_enter Tryz.func48,Tryz.ntmps48
 go_wp2
 all_goals go_ret
 all_goals refine ⟨ret_bool ?_,rfl⟩
 all_goals simp_all
 all_goals (intros;omega)
set_option maxHeartbeats 400000 in
theorem goodRI (r c:Int) (rf cf:Bool) (w:World) :
  Calls Tryz.prog 31 #[refV r c rf cf] w fun e w'=>e=.returned (.bool (goodRB r c))∧Ext w w':=by
 have C1:=fun w=>isRowI r w;have C2:=fun w=>isColI c w;have e:goodRB r c=(decide (1≤r∧r≤1000) && decide (1≤c∧c≤200)):=by unfold goodRB;simp
 rw [e];obtain ⟨c1,h1⟩:∃ b,decide (1≤r∧r≤1000)=b:=⟨_,rfl⟩;obtain ⟨c2,h2⟩:∃ b,decide (1≤c∧c≤200)=b:=⟨_,rfl⟩;rw [h1] at C1 ⊢;rw [h2] at C2 ⊢;clear h1 h2 e;go_enter Tryz.func31,Tryz.ntmps31;cases c1 <;> cases c2
 all_goals go_wp2_with (first | (go_at_call 47;refine (C1 _).mono ?_;rintro e w' ⟨rfl,rfl⟩) | (go_at_call 48;refine (C2 _).mono ?_;rintro e w' ⟨rfl,rfl⟩))
 all_goals go_ret
 all_goals exact ⟨rfl,x1 _ _⟩
set_option maxHeartbeats 400000 in
theorem goodRS (r c:Int) (rf cf:Bool) (w:World) :
  Calls Tryz.prog 30 #[refV r c rf cf] w fun e w'=>e=.returned (.bool (goodRB r c))∧Ext w w':=by
 go_enter Tryz.func30,Tryz.ntmps30
 go_wp2
 all_goals go_ret
 all_goals refine ⟨ret_bool ?_,?_⟩
 all_goals first | exact x1 _ _ | skip
 all_goals simp_all [goodRB]
 all_goals (intros;omega)
set_option maxHeartbeats 400000 in
theorem toRef (r c:Int) (rf cf:Bool) (w:World) :
  Calls Tryz.prog 22 #[refV r c rf cf] w fun e w'=>e=.returned (refV r c rf cf)∧Ext w w':=by
 go_enter Tryz.func22,Tryz.ntmps22
 go_wp2
 exact bodyPost_ret (v:=refV r c rf cf) (by simp [results,Tryz.results22,go_sem]) rfl ⟨rfl,xa (xa (x1 _ _) _) _⟩
set_option maxHeartbeats 400000 in
theorem eqRef_same (r c:Int) (rf cf:Bool) (w:World) :
  Calls Tryz.prog 29 #[refV r c rf cf,refV r c rf cf] w fun e w'=>e=.returned (.bool true)∧Ext w w':=by
 go_enter Tryz.func29,Tryz.ntmps29
 go_wp2
 all_goals go_ret
 all_goals exact ⟨rfl,xa (x1 _ _) _⟩
end Go.Proofs.YtogecaajnjcenaaGreatDoor

namespace Go.Proofs.YtogecaajnjcenaaGreatDoor
open Go.ChangeShapes Go.WideShapes Go.ChangeAt Go.RowKit
abbrev areaV (r c:Int) (rf cf:Bool) (r' c':Int) (rf' cf':Bool):Value:=.agg #[.int .i64 r,.int .i64 c,.bool rf,.bool cf,.int .i64 r',.int .i64 c',.bool rf',.bool cf']
theorem ref_parts {H:Type} {enc:TypeId × Value→H} {W:World} {fuel:Nat} {cs:List Value} {y:DataW H × List MemPlace} (h:DataW.trod enc Tryz.prog W 0 (fun _=>true) true fuel 35 cs=some y) (c0 c1 c2 c3:Value) (hc:cs=[c0,c1,c2,c3]) :
  ∃ (r c:Int) (rf cf:Bool),cs=[.int .i64 r,.int .i64 c,.bool rf,.bool cf]∧(Lit.int .i64 r).wf=true∧(Lit.int .i64 c).wf=true:=by
 obtain ⟨y0,y1,y2,y3,n,_,_,h0,h1,h2,h3⟩:=Joins.trod_struct4 Tryz.underlying35 h;obtain ⟨a0,e0,_,w0⟩:=DataW.trod_int Tryz.underlying3 h0;obtain ⟨a1,e1,_,w1⟩:=DataW.trod_int Tryz.underlying3 h1;obtain ⟨b2,e2,_⟩:=DataW.trod_bool Tryz.underlying4 h2;obtain ⟨b3,e3,_⟩:=DataW.trod_bool Tryz.underlying4 h3;subst hc;have k3:Tryz.prog.cellsOf 3=1:=by kernel_rfl
 have k4:Tryz.prog.cellsOf 4=1:=by kernel_rfl
 simp [k3,k4] at e0 e1 e2 e3;subst e0 e1 e2 e3;exact ⟨a0,a1,b2,b3,rfl,w0,w1⟩
end Go.Proofs.YtogecaajnjcenaaGreatDoor

namespace Go.Proofs.YtogecaajnjcenaaGreatDoor
open Go.RowKit
def Box8 (w:World) (b:Nat) (v0 v1 v2 v3 v4 v5 v6 v7:Value):Prop:=
 ((w.cell? ⟨b,0,none⟩=some v0∧w.cell? ⟨b,1,none⟩=some v1∧w.cell? ⟨b,2,none⟩=some v2∧w.cell? ⟨b,3,none⟩=some v3)∧w.cell? ⟨b,4,none⟩=some v4∧w.cell? ⟨b,5,none⟩=some v5∧w.cell? ⟨b,6,none⟩=some v6∧w.cell? ⟨b,7,none⟩=some v7) ∧
 (w.frozen? ⟨b,0,none⟩=false∧w.frozen? ⟨b,1,none⟩=false∧w.frozen? ⟨b,2,none⟩=false∧w.frozen? ⟨b,3,none⟩=false)∧w.frozen? ⟨b,4,none⟩=false∧w.frozen? ⟨b,5,none⟩=false∧w.frozen? ⟨b,6,none⟩=false∧w.frozen? ⟨b,7,none⟩=false
theorem Box8.made (w:World) (v0 v1 v2 v3 v4 v5 v6 v7:Value) (t:TypeId):Box8 (w.alloc (.cells #[v0,v1,v2,v3,v4,v5,v6,v7] t)) w.heap.size v0 v1 v2 v3 v4 v5 v6 v7:=by
 refine ⟨⟨⟨?_,?_,?_,?_⟩,?_,?_,?_,?_⟩,⟨?_,?_,?_,?_⟩,?_,?_,?_,?_⟩ <;> simp [go_sem]
def Vec (w:World) (b:Nat) (l:List Value):Prop:=∀ i v,l[i]?=some v→w.cell? ⟨b,i,none⟩=some v∧w.frozen? ⟨b,i,none⟩=false
theorem vC2 {w:World} {b:Nat} {v0 v1:Value} {l:List Value} (h:Vec w b (v0 :: v1 :: l)):w.cell? ⟨b,0,none⟩=some v0∧w.cell? ⟨b,1,none⟩=some v1:=
 ⟨(h 0 _ rfl).1,(h 1 _ rfl).1⟩
theorem vC4 {w:World} {b:Nat} {v0 v1 v2 v3:Value} {l:List Value} (h:Vec w b (v0 :: v1 :: v2 :: v3 :: l)):w.cell? ⟨b,0,none⟩=some v0∧w.cell? ⟨b,1,none⟩=some v1∧w.cell? ⟨b,2,none⟩=some v2∧w.cell? ⟨b,3,none⟩=some v3:=
 ⟨(h 0 _ rfl).1,(h 1 _ rfl).1,(h 2 _ rfl).1,(h 3 _ rfl).1⟩
theorem vC14 {w:World} {b:Nat} {v0 v1 v2 v3 v4 v5 v6 v7 v8 v9 v10 v11 v12 v13:Value} {l:List Value} (h:Vec w b (v0 :: v1 :: v2 :: v3 :: v4 :: v5 :: v6 :: v7 :: v8 :: v9 :: v10 :: v11 :: v12 :: v13 :: l)):w.cell? ⟨b,0,none⟩=some v0∧w.cell? ⟨b,1,none⟩=some v1∧w.cell? ⟨b,2,none⟩=some v2∧w.cell? ⟨b,3,none⟩=some v3∧w.cell? ⟨b,4,none⟩=some v4∧w.cell? ⟨b,5,none⟩=some v5∧w.cell? ⟨b,6,none⟩=some v6∧w.cell? ⟨b,7,none⟩=some v7∧w.cell? ⟨b,8,none⟩=some v8∧w.cell? ⟨b,9,none⟩=some v9∧w.cell? ⟨b,10,none⟩=some v10∧w.cell? ⟨b,11,none⟩=some v11∧w.cell? ⟨b,12,none⟩=some v12∧w.cell? ⟨b,13,none⟩=some v13:=
 ⟨(h 0 _ rfl).1,(h 1 _ rfl).1,(h 2 _ rfl).1,(h 3 _ rfl).1,(h 4 _ rfl).1,(h 5 _ rfl).1,(h 6 _ rfl).1,(h 7 _ rfl).1,(h 8 _ rfl).1,(h 9 _ rfl).1,(h 10 _ rfl).1,(h 11 _ rfl).1,(h 12 _ rfl).1,(h 13 _ rfl).1⟩
theorem vC15 {w:World} {b:Nat} {v0 v1 v2 v3 v4 v5 v6 v7 v8 v9 v10 v11 v12 v13 v14:Value} {l:List Value} (h:Vec w b (v0 :: v1 :: v2 :: v3 :: v4 :: v5 :: v6 :: v7 :: v8 :: v9 :: v10 :: v11 :: v12 :: v13 :: v14 :: l)):w.cell? ⟨b,0,none⟩=some v0∧w.cell? ⟨b,1,none⟩=some v1∧w.cell? ⟨b,2,none⟩=some v2∧w.cell? ⟨b,3,none⟩=some v3∧w.cell? ⟨b,4,none⟩=some v4∧w.cell? ⟨b,5,none⟩=some v5∧w.cell? ⟨b,6,none⟩=some v6∧w.cell? ⟨b,7,none⟩=some v7∧w.cell? ⟨b,8,none⟩=some v8∧w.cell? ⟨b,9,none⟩=some v9∧w.cell? ⟨b,10,none⟩=some v10∧w.cell? ⟨b,11,none⟩=some v11∧w.cell? ⟨b,12,none⟩=some v12∧w.cell? ⟨b,13,none⟩=some v13∧w.cell? ⟨b,14,none⟩=some v14:=
 ⟨(h 0 _ rfl).1,(h 1 _ rfl).1,(h 2 _ rfl).1,(h 3 _ rfl).1,(h 4 _ rfl).1,(h 5 _ rfl).1,(h 6 _ rfl).1,(h 7 _ rfl).1,(h 8 _ rfl).1,(h 9 _ rfl).1,(h 10 _ rfl).1,(h 11 _ rfl).1,(h 12 _ rfl).1,(h 13 _ rfl).1,(h 14 _ rfl).1⟩
theorem Vec.later {w w1:World} {b:Nat} {l:List Value} (h:Vec w b l) (hb:Ext w w1):Vec w1 b l:=fun i v hi=>⟨cell_later hb (h i v hi).1,frozen_later hb (h i v hi).1 (h i v hi).2⟩
theorem Vec.far {w:World} {b:Nat} {l:List Value} (h:Vec w b l) {p:Addr} (hp:p.block ≠ b) (u:Value):Vec (w.setCell p u) b l:=fun i v hi=>by
 refine ⟨?_,by rw [World.frozen?_setCell];exact (h i v hi).2⟩;rw [World.cell?_setCell_other _ _ _ _ (fun e=>hp (congrArg Addr.block e))];exact (h i v hi).1
theorem Vec.put {w:World} {b:Nat} {l:List Value} (h:Vec w b l) (i:Nat) (hi:i<l.length) (u:Value):Vec (w.setCell ⟨b,i,none⟩ u) b (l.set i u):=fun j v hj=>by
 refine ⟨?_,?_⟩
 ·by_cases e:j=i
  ·subst e;rw [List.getElem?_set_self hi] at hj;cases hj;exact World.cell?_setCell_same' _ _ _ (by rw [(h j l[j] (List.getElem?_eq_getElem hi)).1];rfl)
  ·rw [List.getElem?_set_ne (fun q=>e q.symm)] at hj;rw [World.cell?_setCell_other _ _ _ _ (fun q=>e (congrArg Addr.off q).symm)];exact (h j v hj).1
 ·rw [World.frozen?_setCell];by_cases e:j=i
  ·subst e;exact (h j l[j] (List.getElem?_eq_getElem hi)).2
  ·rw [List.getElem?_set_ne (fun q=>e q.symm)] at hj;exact (h j v hj).2
theorem Vec.made8 (w:World) (v0 v1 v2 v3 v4 v5 v6 v7:Value) (t:TypeId):Vec (w.alloc (.cells #[v0,v1,v2,v3,v4,v5,v6,v7] t)) w.heap.size [v0,v1,v2,v3,v4,v5,v6,v7]:=by
 obtain ⟨⟨⟨a0,a1,a2,a3⟩,a4,a5,a6,a7⟩,⟨f0,f1,f2,f3⟩,f4,f5,f6,f7⟩:=Box8.made w v0 v1 v2 v3 v4 v5 v6 v7 t;intro i v hi
 match i,hi with
 | 0,hi=>cases hi;exact ⟨a0,f0⟩
 | 1,hi=>cases hi;exact ⟨a1,f1⟩
 | 2,hi=>cases hi;exact ⟨a2,f2⟩
 | 3,hi=>cases hi;exact ⟨a3,f3⟩
 | 4,hi=>cases hi;exact ⟨a4,f4⟩
 | 5,hi=>cases hi;exact ⟨a5,f5⟩
 | 6,hi=>cases hi;exact ⟨a6,f6⟩
 | 7,hi=>cases hi;exact ⟨a7,f7⟩
theorem Vec.made4 (w:World) (v0 v1 v2 v3:Value) (t:TypeId):Vec (w.alloc (.cells #[v0,v1,v2,v3] t)) w.heap.size [v0,v1,v2,v3]:=by
 obtain ⟨⟨a0,a1,a2,a3⟩,f0,f1,f2,f3⟩:=Box4.made w v0 v1 v2 v3 t;intro i v hi
 match i,hi with
 | 0,hi=>cases hi;exact ⟨a0,f0⟩
 | 1,hi=>cases hi;exact ⟨a1,f1⟩
 | 2,hi=>cases hi;exact ⟨a2,f2⟩
 | 3,hi=>cases hi;exact ⟨a3,f3⟩
theorem Vec.box8 {w:World} {b:Nat} {v0 v1 v2 v3 v4 v5 v6 v7:Value} (h:Vec w b [v0,v1,v2,v3,v4,v5,v6,v7]):Box8 w b v0 v1 v2 v3 v4 v5 v6 v7:=
 ⟨⟨⟨(h 0 _ rfl).1,(h 1 _ rfl).1,(h 2 _ rfl).1,(h 3 _ rfl).1⟩,(h 4 _ rfl).1,(h 5 _ rfl).1,(h 6 _ rfl).1,(h 7 _ rfl).1⟩,⟨(h 0 _ rfl).2,(h 1 _ rfl).2,(h 2 _ rfl).2,(h 3 _ rfl).2⟩,(h 4 _ rfl).2,(h 5 _ rfl).2,(h 6 _ rfl).2,(h 7 _ rfl).2⟩
theorem Vec.box4 {w:World} {b:Nat} {v0 v1 v2 v3:Value} (h:Vec w b [v0,v1,v2,v3]):Box4 w b v0 v1 v2 v3:=
 ⟨⟨(h 0 _ rfl).1,(h 1 _ rfl).1,(h 2 _ rfl).1,(h 3 _ rfl).1⟩,(h 0 _ rfl).2,(h 1 _ rfl).2,(h 2 _ rfl).2,(h 3 _ rfl).2⟩
def set4 (w:World) (b o:Nat) (u0 u1 u2 u3:Value):World:=(((w.setCell ⟨b,o,none⟩ u0).setCell ⟨b,o+1,none⟩ u1).setCell ⟨b,o+2,none⟩ u2).setCell ⟨b,o+3,none⟩ u3
theorem Ext.set4 {a w:World} {b o:Nat} (h:Ext a w) (hb:a.heap.size≤b) (u0 u1 u2 u3:Value):Ext a (set4 w b o u0 u1 u2 u3):=
 xset (xset (xset (xset h hb u0) hb u1) hb u2) hb u3
theorem size_ofL' {s:ByteArray} {l:List UInt8} (h:s.data.toList=l):s.size=l.length:=by
 rw [← h,Array.length_toList];rfl
theorem drop_atA {l:List UInt8} {i:Nat} (h:i<l.length):l.drop i=l.getD i 0 :: l.drop (i+1):=by
 rw [List.drop_eq_getElem_cons h];simp [h]
theorem byte_atA {s:ByteArray} {l:List UInt8} (h:s.data.toList=l) {p:Nat} (hp:p<s.size):(s[p]'hp)=l.getD p 0:=by
 subst h;simp only [ByteArray.getElem_eq_getElem_data];have hp':p<s.data.size:=hp;simp only [List.getD,Array.getElem?_toList];rw [Array.getElem?_eq_getElem hp'];rfl
theorem take_at {l:List UInt8} {i:Nat} (h:i<l.length):l.take (i+1)=l.take i++[l.getD i 0]:=by
 rw [List.take_add_one];simp [h]
abbrev sV (l:List UInt8):Value:=.string ⟨l.toArray⟩
theorem vec_made (w:World) (l:List Value) (t:TypeId):Vec (w.alloc (.cells l.toArray t)) w.heap.size l:=by
 intro i v hi;have hb:=heap_alloc_new w (.cells l.toArray t);refine ⟨?_,?_⟩
 ·unfold World.cell?;simp only [hb];simpa using hi
 ·unfold World.frozen?;simp only [hb];simp
theorem boxed (w:World) (l:List Value) (t:TypeId):∃ wa,w.alloc (.cells l.toArray t)=wa∧Ext w wa∧Vec wa w.heap.size l∧wa.heap.size=w.heap.size+1:=
 ⟨_,rfl,x1 w _,vec_made w l t,World.size_alloc _ _⟩
def upC (c:UInt8):UInt8:=if 97≤c.toNat∧c.toNat≤122 then UInt8.ofNat (c.toNat - 32) else c
theorem upC_small {c:UInt8} (h:97≤c.toNat∧c.toNat≤122):((upC c).toNat:Int)=(c.toNat:Int) - 32:=by
 unfold upC;rw [if_pos h,UInt8.toNat_ofNat'];omega
theorem upC_other {c:UInt8} (h:¬ (97≤c.toNat∧c.toNat≤122)):upC c=c:=by unfold upC;rw [if_neg h]
def encB (l:List UInt8):List Value:=l.map fun c=>Value.int .u8 (c.toNat:Int)
theorem encB_length (l:List UInt8):(encB l).length=l.length:=by simp [encB]
theorem encB_at {l:List UInt8} {i:Nat} {c:UInt8} (h:l[i]?=some c):(encB l)[i]?=some (.int .u8 (c.toNat:Int)):=by simp [encB,h]
def upK (l:List UInt8) (k:Nat):List UInt8:=(l.take k).map upC++l.drop k
theorem upK_length (l:List UInt8) (k:Nat):(upK l k).length=l.length:=by simp [upK];omega
theorem upK_zero (l:List UInt8):upK l 0=l:=by simp [upK]
theorem upK_all (l:List UInt8):upK l l.length=l.map upC:=by simp [upK]
theorem upK_at {l:List UInt8} {k:Nat} {c:UInt8} (h:l[k]?=some c):(upK l k)[k]?=some c:=by
 have hk:k<l.length:=(List.getElem?_eq_some_iff.1 h).1;unfold upK;rw [List.getElem?_append_right (by simp;omega)];simp only [List.length_map,List.length_take,List.getElem?_drop];rw [show k+(k - min k l.length)=k by omega];exact h
theorem upK_succ {l:List UInt8} {k:Nat} {c:UInt8} (h:l[k]?=some c):upK l (k+1)=(upK l k).set k (upC c):=by
 have hk:k<l.length:=(List.getElem?_eq_some_iff.1 h).1;apply List.ext_getElem?;intro i;rw [List.getElem?_set];unfold upK;by_cases e:k=i
 ·subst e;rw [if_pos rfl,List.getElem?_append_left (by simp;omega)];rw [if_pos (by simp;omega)];simp [h]
 ·rw [if_neg e]
  rcases Nat.lt_or_ge i k with hi | hi
  ·rw [List.getElem?_append_left (by simp;omega),List.getElem?_append_left (by simp;omega)];simp [hi,Nat.lt_succ_of_lt hi]
  ·rw [List.getElem?_append_right (by simp;omega),List.getElem?_append_right (by simp;omega)];simp only [List.length_map,List.length_take,List.getElem?_drop]
   congr 1
   omega
theorem bytes_made (l:List UInt8) (w:World):∃ cap w',(convert 9 68 (sV l)).run Tryz.prog w=.ok (.slice (some ⟨w.heap.size,0,none⟩) l.length cap) w'∧l.length≤cap∧Ext w w'∧Vec w' w.heap.size (encB l):=by
 have hcv:=run_bytes_of_string (P:=Tryz.prog) w 9 68 5 ⟨l.toArray⟩ Tryz.underlying9 Tryz.underlying68 Tryz.underlying5;refine ⟨_,_,hcv,grownCap_ge _ _ _ _,xa (xd (xr _)) _,fun j u hj=>?_⟩;have hjl:j<l.length:=by
  have:=(List.getElem?_eq_some_iff.1 hj).1;simpa [encB] using this
 obtain ⟨C,hC⟩:∃ C,grownCap w (⟨l.toArray⟩:ByteArray).size 0 5=C:=⟨_,rfl⟩;rw [hC];have hb:(w.drew.alloc (.cells (bytesRow ⟨l.toArray⟩ C) 5 ((bytesRow ⟨l.toArray⟩ C).size,(bytesRow ⟨l.toArray⟩ C).size+1))).heap[w.heap.size]?=some (.cells (bytesRow ⟨l.toArray⟩ C) 5 ((bytesRow ⟨l.toArray⟩ C).size,(bytesRow ⟨l.toArray⟩ C).size+1)):=heap_alloc_new w.drew _;refine ⟨?_,?_⟩
 ·unfold World.cell?;simp only [hb];rw [← hj];unfold bytesRow encB;rw [Array.getElem?_append_left (by simp;exact hjl)];simp
 ·unfold World.frozen?;simp only [hb];have:j<(bytesRow ⟨l.toArray⟩ C).size:=by unfold bytesRow;simp;omega
  simp;omega
theorem bytes_back (l:List UInt8) (g cap:Nat) (w:World) (h:Vec w g (encB l)):(convert 68 9 (.slice (some ⟨g,0,none⟩) l.length cap)).run Tryz.prog w=.ok (sV l) w:=by
 refine run_convert_bytes_back (P:=Tryz.prog) w 68 9 5 ⟨g,0,none⟩ cap l Tryz.underlying68 Tryz.underlying5 Tryz.underlying9 (fun j hj=>?_);have:=(h j _ (encB_at (List.getElem?_eq_getElem hj))).1;rw [show (⟨g,0,none⟩:Addr).add j=⟨g,j,none⟩ by unfold Addr.add;split <;> simp_all];exact this
end Go.Proofs.YtogecaajnjcenaaGreatDoor

