/-
  Several texts in one: FrameNd, BaseT, Frame, FrameX, Cn.
-/
import Derived.Test.YtogecaajnjcenaaGreatDoorMg1
import Derived.Test.YtogecaajnjcenaaGreatDoorMg2
import Derived.Deep.Strs
import Derived.Deep.Slices
import Derived.ChangeSlices
import Derived.Test.YtogecaajnjcenaaGreatDoorBase
import Derived.Stop.LaidErr
import Derived.Laws.IdiomStrings
namespace Go.Proofs.YtogecaajnjcenaaGreatDoor
open Go.ChangeShapes Go.WideShapes Go.ChangeAt Go.RowKit
theorem trodN_any {H:Type} {enc:TypeId × Value→H} {P:Program} {w:World} {base:Nat} {sp:Nat→Bool} {held:Bool} {fuel:Nat} {t:TypeId} {fs:Array Field} {cs:List Value} {y:DataW H × List MemPlace}
  (ht:P.underlying t=some (.struct fs)) (h:DataW.trod enc P w base sp held fuel t cs=some y) (i:Nat) (f:Field) (hf:fs.toList[i]?=some f) :
  ∃ fuel' y',DataW.trod enc P w base sp held fuel' f.type ((cs.drop f.offset).take (P.cellsOf f.type))=some y':=by
 cases fuel with
 | zero=>simp [DataW.trod] at h
 | succ fuel =>
  simp only [DataW.trod,ht] at h
  split at h
  ·obtain ⟨xs,hm,hx⟩:=Option.map_eq_some_iff.1 h;obtain ⟨b,hb,hf'⟩:=Lib.mapM_at hm i f hf;exact ⟨fuel,b,hf'⟩
  ·cases h
theorem node_fields:∃ fs:Array Field,Tryz.prog.underlying 37=some (.struct fs)∧∃ f0 f1 f2 f3 f4 f5,fs.toList[0]?=some f0∧fs.toList[1]?=some f1∧fs.toList[2]?=some f2∧fs.toList[3]?=some f3∧fs.toList[4]?=some f4∧fs.toList[5]?=some f5∧(f0.type=3∧f0.offset=0)∧(f1.type=9∧f1.offset=1)∧(f2.type=33∧f2.offset=2)∧(f3.type=35∧f3.offset=5)∧(f4.type=35∧f4.offset=9)∧(f5.type=3∧f5.offset=13):=
 ⟨_,Tryz.underlying37,_,_,_,_,_,_,rfl,rfl,rfl,rfl,rfl,rfl,⟨rfl,rfl⟩,⟨rfl,rfl⟩,⟨rfl,rfl⟩,⟨rfl,rfl⟩,⟨rfl,rfl⟩,⟨rfl,rfl⟩⟩
set_option maxRecDepth 100000 in
theorem node_parts {H:Type} {enc:TypeId × Value→H} {W:World} {fuel:Nat} {cs:List Value} {y:DataW H × List MemPlace} (hlen:cs.length=14)
  (h:DataW.trod enc Tryz.prog W 0 (fun _=>true) true fuel 37 cs=some y):∃ e:NT,cs=e.cells∧e.t.length≤maxLen ∧ -9223372036854775808≤e.d∧e.d≤9223372036854775807:=by
 obtain ⟨c0,c1,c2,c3,c4,c5,c6,c7,c8,c9,c10,c11,c12,c13,rfl⟩:∃ c0 c1 c2 c3 c4 c5 c6 c7 c8 c9 c10 c11 c12 c13,cs=[c0,c1,c2,c3,c4,c5,c6,c7,c8,c9,c10,c11,c12,c13]:=by
  match cs,hlen with
  | [c0,c1,c2,c3,c4,c5,c6,c7,c8,c9,c10,c11,c12,c13],_=>exact ⟨c0,c1,c2,c3,c4,c5,c6,c7,c8,c9,c10,c11,c12,c13,rfl⟩
 have k3:Tryz.prog.cellsOf 3=1:=by kernel_rfl
 have k4:Tryz.prog.cellsOf 4=1:=by kernel_rfl
 have k9:Tryz.prog.cellsOf 9=1:=by kernel_rfl
 have kd:Tryz.prog.cellsOf 33=3:=by kernel_rfl
 have kr:Tryz.prog.cellsOf 35=4:=by kernel_rfl
 obtain ⟨fs,ht,f0,f1,f2,f3,f4,f5,q0,q1,q2,q3,q4,q5,⟨t0,o0⟩,⟨t1,o1⟩,⟨t2,o2⟩,⟨t3,o3⟩,⟨t4,o4⟩,⟨t5,o5⟩⟩:=node_fields;obtain ⟨n0,y0,g0⟩:=trodN_any ht h 0 f0 q0;rw [t0,o0,k3] at g0;obtain ⟨n1,y1,g1⟩:=trodN_any ht h 1 f1 q1;rw [t1,o1,k9] at g1;obtain ⟨n2,y2,g2⟩:=trodN_any ht h 2 f2 q2;rw [t2,o2,kd] at g2;obtain ⟨n3,y3,g3⟩:=trodN_any ht h 3 f3 q3;rw [t3,o3,kr] at g3;obtain ⟨n4,y4,g4⟩:=trodN_any ht h 4 f4 q4;rw [t4,o4,kr] at g4;obtain ⟨n5,y5,g5⟩:=trodN_any ht h 5 f5 q5;rw [t5,o5,k3] at g5;obtain ⟨a0,e0,_,_⟩:=DataW.trod_int Tryz.underlying3 g0;obtain ⟨a1,e1,_,w1⟩:=DataW.trod_string Tryz.underlying9 g1;obtain ⟨z0,z1,z2,m2,_,_,u0,u1,u2⟩:=Deep.trod_struct3 Tryz.underlying33 g2;obtain ⟨a2,e2,_⟩:=DataW.trod_bool Tryz.underlying4 u0;obtain ⟨a3,e3,_,w3⟩:=DataW.trod_int Tryz.underlying3 u1;obtain ⟨a4,e4,_,_⟩:=DataW.trod_int Tryz.underlying3 u2;obtain ⟨r5,r6,r7,r8,e5,_,_⟩:=ref_parts g3 c5 c6 c7 c8 rfl;obtain ⟨r9,r10,r11,r12,e9,_,_⟩:=ref_parts g4 c9 c10 c11 c12 rfl;obtain ⟨a13,e13,_,_⟩:=DataW.trod_int Tryz.underlying3 g5;simp [k3,k4] at e0 e1 e2 e3 e4 e5 e9 e13;obtain ⟨rfl,rfl,rfl,rfl⟩:=e5;obtain ⟨rfl,rfl,rfl,rfl⟩:=e9;subst e0 e1 e2 e3 e4 e13;exact ⟨⟨a0,a1.data.toList,a2,a3,a4,r5,r6,r7,r8,r9,r10,r11,r12,a13⟩,rfl,w1,bounds_i64 w3⟩
set_option maxRecDepth 100000 in
theorem open_nodes {H:Type} {enc:TypeId × Value→H} {W:World} {base:Nat} {v:Value} {d:DataW H} {p:List MemPlace}
  (hv:Value.okWide Tryz.prog W .any base 22 v) (h:DataW.Trod enc Tryz.prog W 0 (fun _=>true) true 22 v d p) :
  ∃ l:List NT,NodesIn W v l∧l.length≤maxLen∧∀ e ∈ l,e.t.length≤maxLen ∧ -9223372036854775808≤e.d∧e.d≤9223372036854775807:=by
 obtain ⟨a0,len0,cap0,rfl⟩:=okWide_slice Tryz.underlying22 hv;obtain ⟨fuel,hf⟩:=h;have kv:Tryz.prog.cellsOf 37=14:=by kernel_rfl
 rcases Deep.open_slice Tryz.underlying22 hf with ⟨hcs,hx⟩ | ⟨a,len,cap,m,n',D,Pl,hcs,_,hl,hm,hmm,_,hx⟩
 ·simp [Value.cells] at hcs;obtain ⟨rfl,rfl,rfl⟩:=hcs;exact ⟨[],⟨none,0,rfl,Nat.le_refl _,fun h=>by simp at h⟩,by simp,by simp⟩
 ·simp [Value.cells] at hcs;obtain ⟨rfl,rfl,rfl⟩:=hcs;simp only [if_true] at hmm;subst hmm;have each:∀ i,i<len0→∃ e:NT,(∀ (c:Nat) (u:Value),e.cells[c]?=some u→W.cell? ((a.add (i * 14)).add c)=some u)∧(e.t.length≤maxLen ∧ -9223372036854775808≤e.d∧e.d≤9223372036854775807):=by
   intro i hi;obtain ⟨cs',q1,q2⟩:=hx i (by omega);rw [kv] at q1;obtain ⟨_,hlen,hcell⟩:=World.cells?_some q1;obtain ⟨e,rfl,b1⟩:=node_parts hlen q2;refine ⟨e,fun c u hc=>?_,b1⟩;have:=hcell c (ncells_lt hc);rw [this,hc]
  obtain ⟨q,hq⟩:=@Deep.choose_lt NT ⟨zeroNT⟩ _ _ each;refine ⟨(List.range len0).map q,⟨some a,m,by simp,by simpa using hl,fun h0=>?_⟩,by simp;omega,?_⟩
  ·have h0':0<len0:=by simpa using h0
   obtain ⟨pb,po,spt⟩:=a;have hc0:=(hq 0 h0').1 0 _ rfl;have hsp:spt=none:=by simpa [Addr.add] using World.cell?_spot hc0
   subst hsp;refine ⟨pb,po,rfl,fun i e hi c u hc=>?_⟩;rw [List.getElem?_map] at hi;obtain ⟨j,hj,rfl⟩:=Option.map_eq_some_iff.1 hi;have hji:j=i∧i<len0:=by
    rw [List.getElem?_eq_some_iff] at hj;obtain ⟨hlt,hj⟩:=hj;simp at hlt hj;exact ⟨hj.symm,hlt⟩
   obtain ⟨rfl,hlt⟩:=hji;have:=(hq j hlt).1 c u hc;rw [Addr.add_lit,Addr.add_lit] at this;exact this
  ·intro e he;obtain ⟨i,hi,rfl⟩:=List.mem_map.1 he;exact (hq i (List.mem_range.1 hi)).2
end Go.Proofs.YtogecaajnjcenaaGreatDoor

namespace Go.Proofs.YtogecaajnjcenaaGreatDoor
open Go.RowKit
def Tens (w:World):Prop:=∀ i:Nat,i<20→w.cell? ⟨0,i,none⟩=some (.int .u64 ((10 ^ i:Nat):Int))
theorem Tens.later {w w1:World} (h:Tens w) (hb:Ext w w1):Tens w1:=fun i hi=>cell_later hb (h i hi)
theorem Tens.at15 {w:World} (h:Tens w):w.cell? ⟨0,15,none⟩=some (.int .u64 1000000000000000):=h 15 (by decide)
end Go.Proofs.YtogecaajnjcenaaGreatDoor

namespace Go.Proofs.YtogecaajnjcenaaGreatDoor
open Go.ChangeShapes Go.WideShapes Go.ChangeAt Go.RowKit
theorem gTens:Tryz.prog.globalNamed "loop.example/g00025/impl.tens" = some 0:=by kernel_rfl
theorem gTensType:(Tryz.prog.globals[0]?).map (·.type)=some 159:=by kernel_rfl
theorem tens_of {rest:List (String × DataW Unit)} {W:World} (h:laidMet Tryz.prog (("loop.example/g00025/impl.tens", Rows.laid_loop_example_g00025_impl_tens) :: rest) W):Tens W:=by
 have t:Lib.TabIs Tryz.prog W "loop.example/g00025/impl.tens" .u64 [1,10,100,1000,10000,100000,1000000,10000000,100000000,1000000000,10000000000,100000000000,1000000000000,10000000000000,100000000000000,1000000000000000,10000000000000000,100000000000000000,1000000000000000000,10000000000000000000]:=
  Lib.tabIs_of_head (rest:=rest) gTens gTensType Tryz.underlying159 Tryz.underlying158 (by kernel_rfl) (by kernel_rfl) h
 intro i hi;have e:∀ i:Nat,i<20→([1,10,100,1000,10000,100000,1000000,10000000,100000000,1000000000,10000000000,100000000000,1000000000000,10000000000000,100000000000000,1000000000000000,10000000000000000,100000000000000000,1000000000000000000,10000000000000000000]:List Int).getD i 0=((10 ^ i:Nat):Int):=by decide +kernel
 rw [← e i hi];exact t.cell gTens i hi
theorem tens_readable1:∀ g t,Tryz.prog.globalNamed "loop.example/g00025/impl.tens" = some g→(Tryz.prog.globals[g]?).map (·.type)=some t→Tryz.prog.readableRec t=true∧t<Tryz.prog.types.size:=by
 intro g t hg ht;obtain rfl:=Option.some.inj (gTens.symm.trans hg);obtain rfl:=Option.some.inj (gTensType.symm.trans ht);exact ⟨by kernel_rfl,of_decide_eq_true (by kernel_rfl)⟩
end Go.Proofs.YtogecaajnjcenaaGreatDoor

namespace Go.Proofs.YtogecaajnjcenaaGreatDoor
open Go.ChangeShapes Go.WideShapes Go.ChangeAt Go.RowKit
theorem gErrs:Tryz.prog.globalNamed "loop.example/g00025/impl.errorTexts" = some 1:=by kernel_rfl
theorem gErrsType:(Tryz.prog.globals[1]?).map (·.type)=some 160:=by kernel_rfl
theorem strCellsX:Tryz.prog.cellsOf 9=1:=by kernel_rfl
theorem str_cellX {H:Type} {enc:TypeId × Value→H} {w:World} {base:Nat} {sp:Nat→Bool} {held:Bool} {fuel:Nat} {cs:List Value} {l:List UInt8} {p:List MemPlace} (o:Nat)
  (h:DataW.trod enc Tryz.prog w base sp held fuel 9 ((cs.drop (o * Tryz.prog.cellsOf 9)).take (Tryz.prog.cellsOf 9))=some (.lit (.string l),p)):cs[o]?=some (sV l):=by
 rw [strCellsX,Nat.mul_one] at h;obtain ⟨s,hc,hx,_⟩:=DataW.trod_string Tryz.underlying9 h;simp only [Prod.mk.injEq,DataW.lit.injEq,Lit.string.injEq] at hx;have:=congrArg (·[0]?) hc;simp only [List.getElem?_take,List.getElem?_drop,List.getElem?_cons_zero] at this;have hs:s=⟨l.toArray⟩:=by
  cases s;rw [hx.1]
 rw [hs] at this;simpa using this
set_option maxRecDepth 100000 in
theorem errs_of {rest:List (String × DataW Unit)} {W:World} (h:laidMet Tryz.prog (("loop.example/g00025/impl.errorTexts", Rows.laid_loop_example_g00025_impl_errorTexts) :: rest) W):ErrTab W:=by
 obtain ⟨ps,⟨g',t',cs,fuel,p,q,hg',ht',hvar,hd,_,_⟩,_⟩:=h;obtain rfl:=Option.some.inj (gErrs.symm.trans hg');obtain rfl:=Option.some.inj (gErrsType.symm.trans ht');have C:=fun i v (h:cs.toList[i]?=some v)=>(World.var?_cell gErrs hvar i).trans (by simpa using h);intro i t hi;have h9:i<9:=(List.getElem?_eq_some_iff.1 hi).1
 match i,h9,hi with
 | 0,h9,hi=>cases hi;obtain ⟨_,_,k⟩:=trod_elem Tryz.underlying160 hd 0 h9 _ rfl;exact C 0 _ (str_cellX 0 k)
 | 1,h9,hi=>cases hi;obtain ⟨_,_,k⟩:=trod_elem Tryz.underlying160 hd 1 h9 _ rfl;exact C 1 _ (str_cellX 1 k)
 | 2,h9,hi=>cases hi;obtain ⟨_,_,k⟩:=trod_elem Tryz.underlying160 hd 2 h9 _ rfl;exact C 2 _ (str_cellX 2 k)
 | 3,h9,hi=>cases hi;obtain ⟨_,_,k⟩:=trod_elem Tryz.underlying160 hd 3 h9 _ rfl;exact C 3 _ (str_cellX 3 k)
 | 4,h9,hi=>cases hi;obtain ⟨_,_,k⟩:=trod_elem Tryz.underlying160 hd 4 h9 _ rfl;exact C 4 _ (str_cellX 4 k)
 | 5,h9,hi=>cases hi;obtain ⟨_,_,k⟩:=trod_elem Tryz.underlying160 hd 5 h9 _ rfl;exact C 5 _ (str_cellX 5 k)
 | 6,h9,hi=>cases hi;obtain ⟨_,_,k⟩:=trod_elem Tryz.underlying160 hd 6 h9 _ rfl;exact C 6 _ (str_cellX 6 k)
 | 7,h9,hi=>cases hi;obtain ⟨_,_,k⟩:=trod_elem Tryz.underlying160 hd 7 h9 _ rfl;exact C 7 _ (str_cellX 7 k)
 | 8,h9,hi=>cases hi;obtain ⟨_,_,k⟩:=trod_elem Tryz.underlying160 hd 8 h9 _ rfl;exact C 8 _ (str_cellX 8 k)
theorem errs_readable:∀ g t,Tryz.prog.globalNamed "loop.example/g00025/impl.errorTexts" = some g→(Tryz.prog.globals[g]?).map (·.type)=some t→Tryz.prog.readableRec t=true∧t<Tryz.prog.types.size:=by
 intro g t hg ht;obtain rfl:=Option.some.inj (gErrs.symm.trans hg);obtain rfl:=Option.some.inj (gErrsType.symm.trans ht);exact ⟨by kernel_rfl,of_decide_eq_true (by kernel_rfl)⟩
end Go.Proofs.YtogecaajnjcenaaGreatDoor

namespace Go.Proofs.YtogecaajnjcenaaGreatDoor
open Go.RowKit
theorem letSlice:∀ a:Nat,a<26→((⟨#[65,66,67,68,69,70,71,72,73,74,75,76,77,78,79,80,81,82,83,84,85,86,87,88,89,90]⟩:ByteArray).extract a (a+1)).data.toList=[UInt8.ofNat (65+a)]:=by decide +kernel
set_option maxHeartbeats 1000000 in
theorem colNameI_in (n:Int) (w:World) (h1:1≤n) (h2:n≤200) :
  Calls Tryz.prog 153 #[.int .i64 n] w fun e w'=>∃ s,e=.returned (.string s)∧s.data.toList=colN n.toNat∧w'=w:=by
 have C1:=fun w=>isColI n w;simp only [show (1≤n∧n≤200) from ⟨h1,h2⟩,and_self,decide_true] at C1;go_enter Tryz.func153,Tryz.ntmps153;go_wp2_with (first | (go_at_call 48;refine (C1 _).mono ?_;rintro e w' ⟨rfl,rfl⟩))
 go_loop [0,3] (fun a b=>∃ (m:Nat) (s:ByteArray),a=.int .i64 m∧b=.string s∧m≤200∧Hid (nameOf m++s.data.toList=colN n.toNat)∧s.size+m≤200) (fun a _=>(intOf a).toNat)
 case atStart=>exact ⟨n.toNat,_,by rw [Int.toNat_of_nonneg (by omega)],rfl,by omega,by show nameOf n.toNat++[]=_;unfold nameOf;rw [if_neg (by omega),List.append_nil],by show 0+n.toNat≤200;omega⟩
 case round =>
  obtain ⟨m,s,rfl,rfl,hm,HN,HS⟩:=hrel;by_cases hm0:m=0
  ·subst hm0;have HE:Hid (s.data.toList=colN n.toNat):=HN.out;go_wp2_with fail;go_ret;exact ⟨s,rfl,HE.out,rfl⟩
  ·have hm1:(1:Int)≤m:=by omega
   obtain ⟨a,ha⟩:∃ a:Nat,(m - 1) % 26=a:=⟨_,rfl⟩;obtain ⟨q,hq⟩:∃ q:Nat,(m - 1) / 26=q:=⟨_,rfl⟩;have ha':((m:Int) - 1).tmod 26=(a:Int):=by rw [Int.tmod_eq_emod_of_nonneg (by omega)];omega
   have hq':((m:Int) - 1).tdiv 26=(q:Int):=by rw [Int.tdiv_eq_ediv_of_nonneg (by omega)];omega
   have a26:a<26:=by omega
   have q200:q<m:=by omega
   have HN2:Hid (nameOf q++((⟨#[65,66,67,68,69,70,71,72,73,74,75,76,77,78,79,80,81,82,83,84,85,86,87,88,89,90]⟩:ByteArray).extract a (a+1)++s).data.toList=colN n.toNat):=by
    have h:=HN.out;rw [nameOf_step m (by omega) (by omega),ha,hq] at h;have e:=letSlice a a26;show nameOf q++_=_;rw [ByteArray.data_append,Array.toList_append,e,← List.append_assoc];exact h
   have hmin:min (a+1) 26 - a=1:=by omega
   clear HN ha hq;go_wp2_with fail
   go_round
   case rel=>exact ⟨q,_,rfl,rfl,by omega,HN2,by
    have:((⟨#[65,66,67,68,69,70,71,72,73,74,75,76,77,78,79,80,81,82,83,84,85,86,87,88,89,90]⟩:ByteArray).extract a (a+1)).size=1:=(by rw [size_ofL' (letSlice a a26)];rfl);rw [ByteArray.size_append,this];omega⟩
   case measure=>simp [intOf];omega
theorem colNameI (n:Int) (w:World) :
  Calls Tryz.prog 153 #[.int .i64 n] w fun e w'=>∃ s,e=.returned (.string s)∧s.data.toList=colName n∧w'=w:=by
 by_cases h:1≤n∧n≤200
 ·rw [colName,if_pos h];exact colNameI_in n w h.1 h.2
 ·rw [colName,if_neg h];have C1:=fun w=>isColI n w;simp only [h,decide_false] at C1;go_enter Tryz.func153,Tryz.ntmps153;go_wp2_with (first | (go_at_call 48;refine (C1 _).mono ?_;rintro e w' ⟨rfl,rfl⟩));go_ret;exact ⟨_,rfl,rfl,rfl⟩
set_option maxRecDepth 8000 in
set_option maxHeartbeats 1000000 in
theorem colNameS_in (n:Int) (w:World) (h1:1≤n) (h2:n≤200) :
  Calls Tryz.prog 71 #[.int .i64 n] w fun e w'=>∃ s,e=.returned (.string s)∧s.data.toList=colN n.toNat∧Ext w w':=by
 have f1:decide (n<1)=false:=by simp;omega
 have f2:decide (n > 200)=false:=by simp;omega
 go_enter Tryz.func71,Tryz.ntmps71;go_wp2_with fail;go_loopw [0,3] (fun a b wr=>∃ (m:Nat) (s:ByteArray),a=.int .i64 m∧b=.string s∧m≤200∧Hid (nameOf m++s.data.toList=colN n.toNat)∧s.size+m≤200∧Ext w wr) (fun a _ _=>(intOf a).toNat)
 case atStart=>exact ⟨n.toNat,_,by rw [Int.toNat_of_nonneg (by omega)],rfl,by omega,by show nameOf n.toNat++[]=_;unfold nameOf;rw [if_neg (by omega),List.append_nil],by show 0+n.toNat≤200;omega,xr _⟩
 case round =>
  obtain ⟨m,s,rfl,rfl,hm,HN,HS,X⟩:=hrel;by_cases hm0:m=0
  ·subst hm0;have HE:Hid (s.data.toList=colN n.toNat):=HN.out;go_wp2_with fail;go_ret;exact ⟨s,rfl,HE.out,X⟩
  ·have hm1:(1:Int)≤m:=by omega
   obtain ⟨a,ha⟩:∃ a:Nat,(m - 1) % 26=a:=⟨_,rfl⟩;obtain ⟨q,hq⟩:∃ q:Nat,(m - 1) / 26=q:=⟨_,rfl⟩;have ha':((m:Int) - 1).tmod 26=(a:Int):=by rw [Int.tmod_eq_emod_of_nonneg (by omega)];omega
   have hq':((m:Int) - 1).tdiv 26=(q:Int):=by rw [Int.tdiv_eq_ediv_of_nonneg (by omega)];omega
   have a26:a<26:=by omega
   have q200:q<m:=by omega
   have hcv:=run_convert_bytes_back (P:=Tryz.prog) (wr.alloc (.cells #[.int .u8 (65+(a:Int))] 5)) 68 9 5 ⟨wr.heap.size,0,none⟩ 1 [UInt8.ofNat (65+a)] Tryz.underlying68 Tryz.underlying5 Tryz.underlying9 (fun j hj=>by
    have hj':j=0:=(by simpa using hj);subst hj';simp [go_sem];omega)
   rw [List.length_singleton] at hcv;obtain ⟨t,ht⟩:∃ t:ByteArray,(⟨[UInt8.ofNat (65+a)].toArray⟩:ByteArray)=t:=⟨_,rfl⟩;rw [ht] at hcv;have hts:t.data.toList=[UInt8.ofNat (65+a)]:=by rw [← ht]
   have htz:=size_ofL' hts;have HN2:Hid (nameOf q++(t++s).data.toList=colN n.toNat):=by
    have h:=HN.out;rw [nameOf_step m (by omega) (by omega),ha,hq] at h;show nameOf q++_=_;rw [ByteArray.data_append,Array.toList_append,hts,← List.append_assoc];exact h
   simp only [List.length_singleton] at htz;clear ha hq hts ht HN;go_wp2_with fail;go_roundw
   case rel=>exact ⟨q,_,rfl,rfl,by omega,HN2,by rw [ByteArray.size_append];omega,xa X _⟩
   case measure=>simp [intOf];omega
theorem colNameS (n:Int) (w:World) :
  Calls Tryz.prog 71 #[.int .i64 n] w fun e w'=>∃ s,e=.returned (.string s)∧s.data.toList=colName n∧Ext w w':=by
 by_cases h:1≤n∧n≤200
 ·rw [colName,if_pos h];exact colNameS_in n w h.1 h.2
 ·rw [colName,if_neg h];by_cases h1:n<1
  ·have f1:decide (n<1)=true:=by simp;omega
   go_enter Tryz.func71,Tryz.ntmps71;go_wp2_with fail;go_ret;exact ⟨_,rfl,rfl,xr _⟩
  ·have f1:decide (n<1)=false:=by simp;omega
   have f2:decide (n > 200)=true:=by simp;omega
   go_enter Tryz.func71,Tryz.ntmps71;go_wp2_with fail;go_ret;exact ⟨_,rfl,rfl,xr _⟩
theorem bytes_eq {s t:ByteArray} {l:List UInt8} (h:s.data.toList=l) (k:t.data.toList=l):s=t:=by
 cases s;cases t;simp only [ByteArray.mk.injEq];exact Array.toList_inj.1 (h.trans k.symm)
theorem toList_injA {s t:ByteArray} (h:s.toList=t.toList):s=t:=by
 rw [ByteArray.toList_eq,ByteArray.toList_eq] at h;exact bytes_eq rfl h.symm
theorem str_ne {t s:ByteArray} (h:(!t.toList == s.toList)=true):¬ t=s:=by rintro rfl;simp at h
theorem str_eq {t s:ByteArray} (h:(!t.toList == s.toList)=false):t=s:=toList_injA (by simpa using h)
theorem str_not {t s:ByteArray} (h:¬ t=s):(t.toList == s.toList)=false:=by
 rw [beq_eq_false_iff_ne];exact fun q=>h (toList_injA q)
end Go.Proofs.YtogecaajnjcenaaGreatDoor

