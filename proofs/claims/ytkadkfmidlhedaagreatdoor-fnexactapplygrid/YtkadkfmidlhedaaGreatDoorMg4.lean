/-
  Several texts in one: LibC, FrameL, V6d, V9w, V9e, Fb.
-/
import Derived.Test.YtkadkfmidlhedaaGreatDoorMg2
import Derived.Test.YtkadkfmidlhedaaGreatDoorShelf
import Derived.WalkSmall
import Derived.Lib.LaidTab
import Derived.Test.YtkadkfmidlhedaaGreatDoorMg1
import Derived.Stop.LaidErr
import Derived.StringKeys
import Derived.MapKept
import Derived.Carry
namespace Go.Proofs.YtkadkfmidlhedaaGreatDoor
open Go.RowKit
theorem shelfExtra:Builder.Extra Tryz.prog layRepeat_ren:={
 sizeBuilder:=by kernel_rfl
 liesBuilder:=by kernel_rfl
 t5:=layRepeat.t5
 a5:=layRepeat.a5
 z5:=layRepeat.z5
 v5:=layRepeat.v5
 infoByte:=by kernel_rfl
 cellsByte:=by kernel_rfl
 sizeByte:=by kernel_rfl
 neB5:=by decide }
theorem fRepeat:layRepeat_ren.f 105=199:=by kernel_rfl
theorem fItoa:layItoa_ren.f 171=149:=by kernel_rfl
theorem repC:RepC:=by
 intro c w h0 h1;obtain ⟨n,rfl⟩:∃ n:Nat,c=(n:Int):=⟨c.toNat,by omega⟩;have h:=Any.strings_Repeat layRepeat shelfExtra ⟨#[48]⟩ n w (by omega) (by show 1 * n≤_;omega);rw [fRepeat] at h;refine h.mono fun e w' ⟨he,hw⟩=>⟨_,he,?_,hw⟩;have e:=Lib.repeatL_replicate 48 1 n;simp only [Nat.mul_one] at e;show Lib.repeatL [48] n=List.replicate ((n:Int)).toNat 48;rw [Int.toNat_natCast,← e];rfl
theorem gPow10:Tryz.prog.globalNamed "internal/strconv.uint64pow10" = some 8:=by kernel_rfl
theorem grow_ext (w:World) (k:Nat) (os:Array Obj):Ext w (Sort.grow (w.drewN k) os):=
 ⟨rfl,rfl,rfl,by simp [Sort.grow,World.drewN],fun i hi=>by simp [Sort.grow,World.drewN,Array.getElem?_append_left hi]⟩
theorem itoaC {w0:World} (h0:Lib.TabIs Tryz.prog w0 "internal/strconv.uint64pow10" .u64 Lib.pow10Tab):ItoaC w0:=by
 intro n w b0 b1 X;have hlt:8<w0.heap.size:=by
  have h:=h0;unfold Lib.TabIs World.var? at h;simp only [gPow10,Option.bind_some] at h;by_cases hk:8<w0.heap.size
  ·exact hk
  ·rw [Array.getElem?_eq_none (by omega)] at h;cases h
 have h:=Any.strconv_Itoa layItoa n (by omega) (by omega) w (var?_below X gPow10 hlt h0);rw [fItoa] at h;refine h.mono fun e w' ⟨he,k,os,hw⟩=>⟨_,he,rfl,?_⟩;subst hw;exact grow_ext w k os
end Go.Proofs.YtkadkfmidlhedaaGreatDoor

namespace Go.Proofs.YtkadkfmidlhedaaGreatDoor
open Go.ChangeShapes Go.WideShapes Go.ChangeAt Go.RowKit
theorem gPow10Type:(Tryz.prog.globals[8]?).map (·.type)=some 137:=by kernel_rfl
theorem pow10_of {rest:List (String × DataW Unit)} {W:World} (h:laidMet Tryz.prog (("internal/strconv.uint64pow10", Rows.laid_internal_strconv_uint64pow10) :: rest) W):Lib.TabIs Tryz.prog W "internal/strconv.uint64pow10" .u64 Lib.pow10Tab:=
 Lib.tabIs_of_head (rest:=rest) gPow10 gPow10Type Tryz.underlying137 Tryz.underlying62 (by kernel_rfl) (by kernel_rfl) h
end Go.Proofs.YtkadkfmidlhedaaGreatDoor

namespace Go.Proofs.YtkadkfmidlhedaaGreatDoor
open Go.RowKit
abbrev errT:List UInt8:=[35,86,65,76,85,69,33]
abbrev trueT:List UInt8:=[84,82,85,69]
abbrev falseT:List UInt8:=[70,65,76,83,69]
abbrev boolW (b:Bool):Value:=valV 3 false 0 0 (if b then trueT else falseT)
abbrev errW:Value:=valV 4 false 0 0 errT
set_option maxHeartbeats 1000000 in
theorem textVI (l:List UInt8) (w:World):Calls Tryz.prog 53 #[sV l] w fun e w'=>e=.returned (valV 2 false 0 0 l)∧Ext w w':=by
 go_enter Tryz.func53,Tryz.ntmps53
 go_wp2
 exact bodyPost_ret (v:=valV 2 false 0 0 l) (by simp [results,Tryz.results53,go_sem]) rfl ⟨rfl,by first | exact x1 _ _ | exact xa (x1 _ _) _⟩
set_option maxHeartbeats 1000000 in
theorem textVS (l:List UInt8) (w:World):Calls Tryz.prog 81 #[sV l] w fun e w'=>e=.returned (valV 2 false 0 0 l)∧Ext w w':=by
 go_enter Tryz.func81,Tryz.ntmps81
 go_wp2
 exact bodyPost_ret (v:=valV 2 false 0 0 l) (by simp [results,Tryz.results81,go_sem]) rfl ⟨rfl,by first | exact x1 _ _ | exact xa (x1 _ _) _⟩
set_option maxHeartbeats 1000000 in
theorem errVI (l:List UInt8) (w:World):Calls Tryz.prog 52 #[sV l] w fun e w'=>e=.returned (valV 4 false 0 0 l)∧Ext w w':=by
 go_enter Tryz.func52,Tryz.ntmps52
 go_wp2
 exact bodyPost_ret (v:=valV 4 false 0 0 l) (by simp [results,Tryz.results52,go_sem]) rfl ⟨rfl,by first | exact x1 _ _ | exact xa (x1 _ _) _⟩
set_option maxHeartbeats 1000000 in
theorem errVS (l:List UInt8) (w:World):Calls Tryz.prog 69 #[sV l] w fun e w'=>e=.returned (valV 4 false 0 0 l)∧Ext w w':=by
 go_enter Tryz.func69,Tryz.ntmps69
 go_wp2
 exact bodyPost_ret (v:=valV 4 false 0 0 l) (by simp [results,Tryz.results69,go_sem]) rfl ⟨rfl,by first | exact x1 _ _ | exact xa (x1 _ _) _⟩
set_option maxHeartbeats 1000000 in
theorem numVI (n:Bool) (d x:Int) (w:World):Calls Tryz.prog 48 #[decV n d x] w fun e w'=>e=.returned (valV 1 n d x [])∧Ext w w':=by
 go_enter Tryz.func48,Tryz.ntmps48
 go_wp2
 exact bodyPost_ret (v:=valV 1 n d x []) (by simp [results,Tryz.results48,go_sem]) rfl ⟨rfl,by first | exact x1 _ _ | exact xa (x1 _ _) _⟩
set_option maxHeartbeats 1000000 in
theorem numVS (n:Bool) (d x:Int) (w:World):Calls Tryz.prog 84 #[decV n d x] w fun e w'=>e=.returned (valV 1 n d x [])∧Ext w w':=by
 go_enter Tryz.func84,Tryz.ntmps84
 go_wp2
 exact bodyPost_ret (v:=valV 1 n d x []) (by simp [results,Tryz.results84,go_sem]) rfl ⟨rfl,by first | exact x1 _ _ | exact xa (x1 _ _) _⟩
set_option maxHeartbeats 1000000 in
theorem boolVI (b:Bool) (w:World):Calls Tryz.prog 50 #[.bool b] w fun e w'=>e=.returned (boolW b)∧Ext w w':=by
 cases b
 ·go_enter Tryz.func50,Tryz.ntmps50
  go_wp2
  exact bodyPost_ret (v:=valV 3 false 0 0 falseT) (by simp [results,Tryz.results50,go_sem,falseT]) rfl ⟨rfl,x1 _ _⟩
 ·go_enter Tryz.func50,Tryz.ntmps50
  go_wp2
  exact bodyPost_ret (v:=valV 3 false 0 0 trueT) (by simp [results,Tryz.results50,go_sem,trueT]) rfl ⟨rfl,x1 _ _⟩
set_option maxHeartbeats 1000000 in
theorem boolVS (b:Bool) (w:World):Calls Tryz.prog 83 #[.bool b] w fun e w'=>e=.returned (boolW b)∧Ext w w':=by
 cases b
 ·go_enter Tryz.func83,Tryz.ntmps83
  go_wp2
  exact bodyPost_ret (v:=valV 3 false 0 0 falseT) (by simp [results,Tryz.results83,go_sem,falseT]) rfl ⟨rfl,x1 _ _⟩
 ·go_enter Tryz.func83,Tryz.ntmps83
  go_wp2
  exact bodyPost_ret (v:=valV 3 false 0 0 trueT) (by simp [results,Tryz.results83,go_sem,trueT]) rfl ⟨rfl,x1 _ _⟩
theorem goodV_num {n:Bool} {d x:Int} {t:List UInt8} (h:goodV 1 n d x t=true):goodB n d x=true∧t=[]:=by simpa [goodV] using h
theorem goodV_zero {k:Int} {n:Bool} {d x:Int} {t:List UInt8} (h:goodV k n d x t=true) (h1:k ≠ 1):n=false∧d=0∧x=0:=by
 simp only [goodV,h1,if_false,Bool.and_eq_true] at h;have:=h.1;simpa [zeroD,and_assoc] using this
theorem goodV_empty {n:Bool} {d x:Int} {t:List UInt8} (h:goodV 0 n d x t=true):t=[]:=by simpa [goodV] using (show _∧_ by simpa [goodV] using h).2
theorem str_law:WideMaps.KeyLaw Tryz.prog 9:=WideMaps.string_law Tryz.underlying9
theorem str_key {l:List UInt8} (h:l.length≤1000000):∃ x,keyOf Tryz.prog 9 (sV l)=some x:=
 ⟨_,WideMaps.keyOf_string_mk Tryz.underlying9 (show l.length≤maxLen by unfold maxLen;omega)⟩
theorem work_type:Tryz.prog.underlying 93=some (.map 9 91):=by kernel_rfl
def Works (w:World) (m:Nat) (L:List (List UInt8 × Value)):Prop:=
 ∃ es clock,w.heap[m]?=some (.map es clock)∧es.toList.map (fun e=>(e.key,e.val))=L.map (fun p=>(sV p.1,p.2))
theorem Works.lt {w:World} {m:Nat} {L:List (List UInt8 × Value)} (h:Works w m L):m<w.heap.size:=by
 obtain ⟨es,c,hb,_⟩:=h
 rcases Nat.lt_or_ge m w.heap.size with h' | h'
 ·exact h'
 ·rw [Array.getElem?_eq_none h'] at hb;cases hb
theorem Works.later {w w':World} {m:Nat} {L:List (List UInt8 × Value)} (h:Works w m L) (e:Ext w w'):Works w' m L:=by
 have hlt:=h.lt;obtain ⟨es,c,hb,he⟩:=h;exact ⟨es,c,by rw [e.block m hlt];exact hb,he⟩
theorem Works.keyed {L:List (List UInt8 × Value)} {es:Array MapEntry} (he:es.toList.map (fun e=>(e.key,e.val))=L.map (fun p=>(sV p.1,p.2))) :
  ∀ e ∈ es.toList,∃ p ∈ L,e.key=sV p.1∧e.val=p.2:=fun e hm=>by
 have:(e.key,e.val) ∈ es.toList.map (fun e=>(e.key,e.val)):=List.mem_map.2 ⟨e,hm,rfl⟩;rw [he] at this;obtain ⟨k,hk,hkk⟩:=List.mem_map.1 this;exact ⟨k,hk,(congrArg Prod.fst hkk).symm,(congrArg Prod.snd hkk).symm⟩
theorem sV_inj {a b:List UInt8} (h:sV a=sV b):a=b:=by
 have:a.toArray=b.toArray:=by simpa using h
 exact List.toArray_inj this
theorem ext_block {a w:World} (h:Ext a w) {m:Nat} (hm:a.heap.size≤m) (o:Obj):Ext a { w with heap:=w.heap.setIfInBounds m o }:=
 ⟨h.os,h.tape,h.output,by simpa using h.size,fun k hk=>by
  show (w.heap.setIfInBounds m o)[k]?=_;rw [Array.getElem?_setIfInBounds_ne (by omega)];exact h.block k hk⟩
theorem Works.insert {a w:World} {m:Nat} {L:List (List UInt8 × Value)} (h:Works w m L) (X:Ext a w) (hm:a.heap.size≤m) (hL:∀ p ∈ L,p.1.length≤1000000) {l:List UInt8} (hl:l.length≤1000000) (v:Value) (hn:∀ p ∈ L,p.1 ≠ l) :
  ∃ u,(Instr.mapUpdate 93 (.map (some m)) (sV l) v).run Tryz.prog w=.ok () u∧Works u m (L++[(l,v)])∧Ext a u:=by
 have hlt:=h.lt;obtain ⟨es,clock,hb,he⟩:=h;obtain ⟨x,hx⟩:=str_key hl;have hkeys:∀ e ∈ es.toList,∃ l,keyOf Tryz.prog 9 e.key=some l:=fun e hm=>by
  obtain ⟨p,hp,hj,_⟩:=Works.keyed he e hm;rw [hj];exact str_key (hL p hp)
 rcases str_law.find w hx es.toList hkeys with ⟨h1,h2⟩ | ⟨j,e0,h1,h2,h3⟩
 ·refine ⟨{ w with heap:=w.heap.setIfInBounds m (.map (es.push ⟨sV l,v,clock⟩) (clock+1)) },?_,⟨es.push ⟨sV l,v,clock⟩,clock+1,?_,?_⟩,ext_block X hm _⟩
  ·simp [Instr.mapUpdate,run_underlying work_type,MapKept.run_getObj_map hb,str_law.check w false hx,h1,MapKept.run_setObj_map _ hb,Result.andThen]
  ·show (w.heap.setIfInBounds m _)[m]?=_;rw [Array.getElem?_setIfInBounds_self_of_lt hlt]
  ·rw [Array.toList_push,List.map_append,he,List.map_append];rfl
 ·exfalso;obtain ⟨p,hp,hik,_⟩:=Works.keyed he e0 (List.mem_of_getElem? h2);rw [h3] at hik;exact hn p hp (sV_inj hik).symm
theorem Works.found {w:World} {m:Nat} {L:List (List UInt8 × Value)} (h:Works w m L) (hL:∀ p ∈ L,p.1.length≤1000000) {l:List UInt8} {v:Value} (hm:(l,v) ∈ L) (hu:∀ p ∈ L,p.1=l→p.2=v) :
  (Instr.lookup 93 (.map (some m)) (sV l) true).run Tryz.prog w=.ok (.tuple #[v,.bool true]) w:=by
 obtain ⟨es,clock,hb,he⟩:=h;obtain ⟨x,hx⟩:=str_key (hL _ hm);have hkeys:∀ e ∈ es.toList,∃ l,keyOf Tryz.prog 9 e.key=some l:=fun e hm=>by
  obtain ⟨p,hp,hj,_⟩:=Works.keyed he e hm;rw [hj];exact str_key (hL p hp)
 rcases str_law.find w hx es.toList hkeys with ⟨h1,h2⟩ | ⟨j,e0,h1,h2,h3⟩
 ·exfalso;have:(sV l,v) ∈ L.map (fun p=>(sV p.1,p.2)):=List.mem_map.2 ⟨_,hm,rfl⟩;rw [← he] at this;obtain ⟨e,hm,hee⟩:=List.mem_map.1 this;exact h2 e hm (congrArg Prod.fst hee)
 ·obtain ⟨p,hp,hik,hv⟩:=Works.keyed he e0 (List.mem_of_getElem? h2);rw [h3] at hik;have hv2:=hu p hp (sV_inj hik).symm;rw [hv2] at hv;simp [Instr.lookup,run_underlying work_type,MapKept.run_getObj_map hb,str_law.check w _ hx,h1,Result.andThen,hv]
theorem Works.lost {w:World} {m:Nat} {L:List (List UInt8 × Value)} (h:Works w m L) (hL:∀ p ∈ L,p.1.length≤1000000) {l:List UInt8} (hl:l.length≤1048576) (hn:∀ p ∈ L,p.1 ≠ l) :
  (Instr.lookup 93 (.map (some m)) (sV l) true).run Tryz.prog w=.ok (.tuple #[.nilFunc,.bool false]) w:=by
 obtain ⟨es,clock,hb,he⟩:=h;obtain ⟨x,hx⟩:∃ x,keyOf Tryz.prog 9 (sV l)=some x:=⟨_,WideMaps.keyOf_string_mk Tryz.underlying9 (show l.length≤maxLen by unfold maxLen;omega)⟩;have hkeys:∀ e ∈ es.toList,∃ l,keyOf Tryz.prog 9 e.key=some l:=fun e hm=>by
  obtain ⟨p,hp,hj,_⟩:=Works.keyed he e hm;rw [hj];exact str_key (hL p hp)
 have hz:∀ u:World,(zeroValue 91).run Tryz.prog u=.ok .nilFunc u:=fun u=>by kernel_rfl
 rcases str_law.find w hx es.toList hkeys with ⟨h1,h2⟩ | ⟨j,e0,h1,h2,h3⟩
 ·exact by simp [Instr.lookup,run_underlying work_type,MapKept.run_getObj_map hb,str_law.check w _ hx,h1,Result.andThen,hz w]
 ·exfalso;obtain ⟨p,hp,hik,_⟩:=Works.keyed he e0 (List.mem_of_getElem? h2);rw [h3] at hik;exact hn p hp (sV_inj hik).symm
abbrev fnV (f:Nat):Value:=.func (.func f) #[] #[]
def workL:List (List UInt8 × Value):=[([43],fnV 106),([45],fnV 107),([42],fnV 108),([47],fnV 109),([94],fnV 110),([38],fnV 111),([61],fnV 112),([60,62],fnV 113),([60],fnV 114),([62],fnV 115),([60,61],fnV 116),([62,61],fnV 117)]
theorem workL_len:∀ p ∈ workL,p.1.length≤1000000:=by
 intro p hp;simp only [workL,List.mem_cons,List.not_mem_nil,or_false] at hp
 rcases hp with rfl | rfl | rfl | rfl | rfl | rfl | rfl | rfl | rfl | rfl | rfl | rfl <;> simp
set_option maxRecDepth 8000 in
set_option maxHeartbeats 2000000 in
theorem worksI (w:World):Calls Tryz.prog 61 #[] w fun e w'=>∃ m,e=.returned (.map (some m))∧Works w' m workL∧Ext w w':=by
 have hm:(Instr.makeMap 93 none).run Tryz.prog w=.ok (.map (some w.heap.size)) (w.alloc (.map #[] 0)):=run_makeMap _ w;have X0:=x1 w (.map #[] 0);have W0:Works (w.alloc (.map #[] 0)) w.heap.size []:=⟨#[],0,(MapKept.heap_alloc w _).1,rfl⟩;obtain ⟨u0,h0⟩:∃ u,w.alloc (.map #[] 0)=u:=⟨_,rfl⟩;rw [h0] at hm X0 W0;clear h0;obtain ⟨u1,r1,W1,X1⟩:=W0.insert X0 (Nat.le_refl _) (l:=[43]) (by simp) (by decide) (fnV 106) (by simp);obtain ⟨u2,r2,W2,X2⟩:=W1.insert X1 (Nat.le_refl _) (l:=[45]) (by simp) (by decide) (fnV 107) (by simp);obtain ⟨u3,r3,W3,X3⟩:=W2.insert X2 (Nat.le_refl _) (l:=[42]) (by simp) (by decide) (fnV 108) (by simp);obtain ⟨u4,r4,W4,X4⟩:=W3.insert X3 (Nat.le_refl _) (l:=[47]) (by simp) (by decide) (fnV 109) (by simp);obtain ⟨u5,r5,W5,X5⟩:=W4.insert X4 (Nat.le_refl _) (l:=[94]) (by simp) (by decide) (fnV 110) (by simp);obtain ⟨u6,r6,W6,X6⟩:=W5.insert X5 (Nat.le_refl _) (l:=[38]) (by simp) (by decide) (fnV 111) (by simp);obtain ⟨u7,r7,W7,X7⟩:=W6.insert X6 (Nat.le_refl _) (l:=[61]) (by simp) (by decide) (fnV 112) (by simp);obtain ⟨u8,r8,W8,X8⟩:=W7.insert X7 (Nat.le_refl _) (l:=[60,62]) (by simp) (by decide) (fnV 113) (by simp);obtain ⟨u9,r9,W9,X9⟩:=W8.insert X8 (Nat.le_refl _) (l:=[60]) (by simp) (by decide) (fnV 114) (by simp);obtain ⟨u10,r10,W10,X10⟩:=W9.insert X9 (Nat.le_refl _) (l:=[62]) (by simp) (by decide) (fnV 115) (by simp);obtain ⟨u11,r11,W11,X11⟩:=W10.insert X10 (Nat.le_refl _) (l:=[60,61]) (by simp) (by decide) (fnV 116) (by simp);obtain ⟨u12,r12,W12,X12⟩:=W11.insert X11 (Nat.le_refl _) (l:=[62,61]) (by simp) (by decide) (fnV 117) (by simp);have WF:Hid (Works u12 w.heap.size workL):=W12;clear W0 W1 W2 W3 W4 W5 W6 W7 W8 W9 W10 W11 W12;clear X0 X1 X2 X3 X4 X5 X6 X7 X8 X9 X10 X11;go_enter Tryz.func61,Tryz.ntmps61;go_wp2_with fail;go_ret;exact ⟨_,rfl,WF.out,X12⟩
theorem Vec.three {w:World} {b:Nat} {v0 v1 v2:Value} (h:Vec w b [v0,v1,v2]):w.cell? ⟨b,0,none⟩=some v0∧w.cell? ⟨b,1,none⟩=some v1∧w.cell? ⟨b,2,none⟩=some v2:=
 ⟨(h 0 _ rfl).1,(h 1 _ rfl).1,(h 2 _ rfl).1⟩
theorem Vec.threeF {w:World} {b:Nat} {v0 v1 v2:Value} (h:Vec w b [v0,v1,v2]):w.frozen? ⟨b,0,none⟩=false∧w.frozen? ⟨b,1,none⟩=false∧w.frozen? ⟨b,2,none⟩=false:=
 ⟨(h 0 _ rfl).2,(h 1 _ rfl).2,(h 2 _ rfl).2⟩
theorem Vec.four {w:World} {b:Nat} {v0 v1 v2 v3:Value} (h:Vec w b [v0,v1,v2,v3]):w.cell? ⟨b,0,none⟩=some v0∧w.cell? ⟨b,1,none⟩=some v1∧w.cell? ⟨b,2,none⟩=some v2∧w.cell? ⟨b,3,none⟩=some v3:=
 ⟨(h 0 _ rfl).1,(h 1 _ rfl).1,(h 2 _ rfl).1,(h 3 _ rfl).1⟩
theorem Vec.fourF {w:World} {b:Nat} {v0 v1 v2 v3:Value} (h:Vec w b [v0,v1,v2,v3]):w.frozen? ⟨b,0,none⟩=false∧w.frozen? ⟨b,1,none⟩=false∧w.frozen? ⟨b,2,none⟩=false∧w.frozen? ⟨b,3,none⟩=false:=
 ⟨(h 0 _ rfl).2,(h 1 _ rfl).2,(h 2 _ rfl).2,(h 3 _ rfl).2⟩
theorem Vec.five {w:World} {b:Nat} {v0 v1 v2 v3 v4:Value} (h:Vec w b [v0,v1,v2,v3,v4]):w.cell? ⟨b,0,none⟩=some v0∧w.cell? ⟨b,1,none⟩=some v1∧w.cell? ⟨b,2,none⟩=some v2∧w.cell? ⟨b,3,none⟩=some v3∧w.cell? ⟨b,4,none⟩=some v4:=
 ⟨(h 0 _ rfl).1,(h 1 _ rfl).1,(h 2 _ rfl).1,(h 3 _ rfl).1,(h 4 _ rfl).1⟩
theorem Vec.fiveF {w:World} {b:Nat} {v0 v1 v2 v3 v4:Value} (h:Vec w b [v0,v1,v2,v3,v4]):w.frozen? ⟨b,0,none⟩=false∧w.frozen? ⟨b,1,none⟩=false∧w.frozen? ⟨b,2,none⟩=false∧w.frozen? ⟨b,3,none⟩=false∧w.frozen? ⟨b,4,none⟩=false:=
 ⟨(h 0 _ rfl).2,(h 1 _ rfl).2,(h 2 _ rfl).2,(h 3 _ rfl).2,(h 4 _ rfl).2⟩
theorem fin5 {a w:World} {b:Nat} (V:Vec w b (valL 0 false 0 0 [])) (X:Ext a w) (hb:a.heap.size≤b) (k:Int) (n:Bool) (d x:Int) (t:List UInt8) :
  ∃ wy,(((((w.setCell ⟨b,0,none⟩ (.int .i64 k)).setCell ⟨b,1,none⟩ (.bool n)).setCell ⟨b,2,none⟩ (.int .i64 d)).setCell ⟨b,3,none⟩ (.int .i64 x)).setCell ⟨b,4,none⟩ (sV t))=wy∧Ext a wy∧(w.cell? ⟨b,0,none⟩=some (.int .i64 0)∧w.cell? ⟨b,1,none⟩=some (.bool false)∧w.cell? ⟨b,2,none⟩=some (.int .i64 0)∧w.cell? ⟨b,3,none⟩=some (.int .i64 0)∧w.cell? ⟨b,4,none⟩=some (sV []))∧(w.frozen? ⟨b,0,none⟩=false∧w.frozen? ⟨b,1,none⟩=false∧w.frozen? ⟨b,2,none⟩=false∧w.frozen? ⟨b,3,none⟩=false∧w.frozen? ⟨b,4,none⟩=false)∧wy.cell? ⟨b,0,none⟩=some (.int .i64 k)∧wy.cell? ⟨b,1,none⟩=some (.bool n)∧wy.cell? ⟨b,2,none⟩=some (.int .i64 d)∧wy.cell? ⟨b,3,none⟩=some (.int .i64 x)∧wy.cell? ⟨b,4,none⟩=some (sV t):=by
 have FG:=V.put5 (.int .i64 k) (.bool n) (.int .i64 d) (.int .i64 x) (sV t);have FX:=Ext.setL (b:=b) hb [.int .i64 k,.bool n,.int .i64 d,.int .i64 x,sV t] 0 X;exact ⟨_,rfl,FX,V.five,V.fiveF,FG.five⟩
theorem newB (w:World) (k:Int) (n:Bool) (d x:Int) (t:List UInt8) :
  ∃ wz wy,w.alloc (.cells #[.int .i64 0,.bool false,.int .i64 0,.int .i64 0,sV []] 26)=wz∧(((((wz.setCell ⟨w.heap.size,0,none⟩ (.int .i64 k)).setCell ⟨w.heap.size,1,none⟩ (.bool n)).setCell ⟨w.heap.size,2,none⟩ (.int .i64 d)).setCell ⟨w.heap.size,3,none⟩ (.int .i64 x)).setCell ⟨w.heap.size,4,none⟩ (sV t))=wy∧Vec wy w.heap.size (valL k n d x t)∧Ext w wy∧(wz.cell? ⟨w.heap.size,0,none⟩=some (.int .i64 0)∧wz.cell? ⟨w.heap.size,1,none⟩=some (.bool false)∧wz.cell? ⟨w.heap.size,2,none⟩=some (.int .i64 0)∧wz.cell? ⟨w.heap.size,3,none⟩=some (.int .i64 0)∧wz.cell? ⟨w.heap.size,4,none⟩=some (sV []))∧wz.frozen? ⟨w.heap.size,0,none⟩=false∧wz.frozen? ⟨w.heap.size,1,none⟩=false∧wz.frozen? ⟨w.heap.size,2,none⟩=false∧wz.frozen? ⟨w.heap.size,3,none⟩=false∧wz.frozen? ⟨w.heap.size,4,none⟩=false:=by
 have Z:=vec_made w (valL 0 false 0 0 []) 26;exact ⟨_,_,rfl,rfl,Z.put5 (.int .i64 k) (.bool n) (.int .i64 d) (.int .i64 x) (sV t),Ext.setL (b:=w.heap.size) (Nat.le_refl _) [.int .i64 k,.bool n,.int .i64 d,.int .i64 x,sV t] 0 (x1 w _),Z.five,Z.fiveF⟩
theorem mkB2 (w:World) (l0 l1:List Value) (T0 T1:TypeId):∃ u0 u1,w.alloc (.cells l0.toArray T0)=u0∧u0.alloc (.cells l1.toArray T1)=u1∧u0.heap.size=w.heap.size+1∧u1.heap.size=w.heap.size+1+1∧Vec u1 (w.heap.size) l0∧Vec u1 (w.heap.size+1) l1∧Ext w u1:=by
 have X0:=x1 w (.cells l0.toArray T0);have B0:=vec_made w l0 T0;obtain ⟨u0,h0⟩:∃ u,w.alloc (.cells l0.toArray T0)=u:=⟨_,rfl⟩;rw [h0] at X0 B0;have s0:u0.heap.size=w.heap.size+1:=by rw [← h0,World.size_alloc]
 have X:=X0;have X1:=x1 u0 (.cells l1.toArray T1);have B1:=vec_made u0 l1 T1;obtain ⟨u1,h1⟩:∃ u,u0.alloc (.cells l1.toArray T1)=u:=⟨_,rfl⟩;rw [h1] at X1 B1;rw [s0] at B1;have s1:u1.heap.size=w.heap.size+1+1:=by rw [← h1,World.size_alloc,s0]
 have B0:=B0.later X1;have X:=xt X X1;exact ⟨u0,u1,h0,h1,s0,s1,B0,B1,X⟩
theorem mkB3 (w:World) (l0 l1 l2:List Value) (T0 T1 T2:TypeId):∃ u0 u1 u2,w.alloc (.cells l0.toArray T0)=u0∧u0.alloc (.cells l1.toArray T1)=u1∧u1.alloc (.cells l2.toArray T2)=u2∧u0.heap.size=w.heap.size+1∧u1.heap.size=w.heap.size+1+1∧u2.heap.size=w.heap.size+1+1+1∧Vec u2 (w.heap.size) l0∧Vec u2 (w.heap.size+1) l1∧Vec u2 (w.heap.size+1+1) l2∧Ext w u2:=by
 have X0:=x1 w (.cells l0.toArray T0);have B0:=vec_made w l0 T0;obtain ⟨u0,h0⟩:∃ u,w.alloc (.cells l0.toArray T0)=u:=⟨_,rfl⟩;rw [h0] at X0 B0;have s0:u0.heap.size=w.heap.size+1:=by rw [← h0,World.size_alloc]
 have X:=X0;have X1:=x1 u0 (.cells l1.toArray T1);have B1:=vec_made u0 l1 T1;obtain ⟨u1,h1⟩:∃ u,u0.alloc (.cells l1.toArray T1)=u:=⟨_,rfl⟩;rw [h1] at X1 B1;rw [s0] at B1;have s1:u1.heap.size=w.heap.size+1+1:=by rw [← h1,World.size_alloc,s0]
 have B0:=B0.later X1;have X:=xt X X1;have X2:=x1 u1 (.cells l2.toArray T2);have B2:=vec_made u1 l2 T2;obtain ⟨u2,h2⟩:∃ u,u1.alloc (.cells l2.toArray T2)=u:=⟨_,rfl⟩;rw [h2] at X2 B2;rw [s1] at B2;have s2:u2.heap.size=w.heap.size+1+1+1:=by rw [← h2,World.size_alloc,s1]
 have B0:=B0.later X2;have B1:=B1.later X2;have X:=xt X X2;exact ⟨u0,u1,u2,h0,h1,h2,s0,s1,s2,B0,B1,B2,X⟩
theorem mkB4 (w:World) (l0 l1 l2 l3:List Value) (T0 T1 T2 T3:TypeId):∃ u0 u1 u2 u3,w.alloc (.cells l0.toArray T0)=u0∧u0.alloc (.cells l1.toArray T1)=u1∧u1.alloc (.cells l2.toArray T2)=u2∧u2.alloc (.cells l3.toArray T3)=u3∧u0.heap.size=w.heap.size+1∧u1.heap.size=w.heap.size+1+1∧u2.heap.size=w.heap.size+1+1+1∧u3.heap.size=w.heap.size+1+1+1+1∧Vec u3 (w.heap.size) l0∧Vec u3 (w.heap.size+1) l1∧Vec u3 (w.heap.size+1+1) l2∧Vec u3 (w.heap.size+1+1+1) l3∧Ext w u3:=by
 have X0:=x1 w (.cells l0.toArray T0);have B0:=vec_made w l0 T0;obtain ⟨u0,h0⟩:∃ u,w.alloc (.cells l0.toArray T0)=u:=⟨_,rfl⟩;rw [h0] at X0 B0;have s0:u0.heap.size=w.heap.size+1:=by rw [← h0,World.size_alloc]
 have X:=X0;have X1:=x1 u0 (.cells l1.toArray T1);have B1:=vec_made u0 l1 T1;obtain ⟨u1,h1⟩:∃ u,u0.alloc (.cells l1.toArray T1)=u:=⟨_,rfl⟩;rw [h1] at X1 B1;rw [s0] at B1;have s1:u1.heap.size=w.heap.size+1+1:=by rw [← h1,World.size_alloc,s0]
 have B0:=B0.later X1;have X:=xt X X1;have X2:=x1 u1 (.cells l2.toArray T2);have B2:=vec_made u1 l2 T2;obtain ⟨u2,h2⟩:∃ u,u1.alloc (.cells l2.toArray T2)=u:=⟨_,rfl⟩;rw [h2] at X2 B2;rw [s1] at B2;have s2:u2.heap.size=w.heap.size+1+1+1:=by rw [← h2,World.size_alloc,s1]
 have B0:=B0.later X2;have B1:=B1.later X2;have X:=xt X X2;have X3:=x1 u2 (.cells l3.toArray T3);have B3:=vec_made u2 l3 T3;obtain ⟨u3,h3⟩:∃ u,u2.alloc (.cells l3.toArray T3)=u:=⟨_,rfl⟩;rw [h3] at X3 B3;rw [s2] at B3;have s3:u3.heap.size=w.heap.size+1+1+1+1:=by rw [← h3,World.size_alloc,s2]
 have B0:=B0.later X3;have B1:=B1.later X3;have B2:=B2.later X3;have X:=xt X X3;exact ⟨u0,u1,u2,u3,h0,h1,h2,h3,s0,s1,s2,s3,B0,B1,B2,B3,X⟩
set_option maxRecDepth 8000 in
set_option maxHeartbeats 1000000 in
theorem capsI (l:List UInt8) (w:World) (hl:l.length≤2000000) :
  Calls Tryz.prog 41 #[sV l] w fun e w'=>e=.returned (sV (l.map upC))∧Ext w w':=by
 obtain ⟨cap,wb,hcv,hcap,X0,V0⟩:=bytes_made l w;obtain ⟨n,hn⟩:∃ n,l.length=n:=⟨_,rfl⟩;rw [hn] at hcv hcap hl;have HN:Hid (l.length=n):=hn;have V0':Hid (Vec wb w.heap.size (encB (upK l 0))):=by show Vec _ _ _;rw [upK_zero];exact V0
 clear hn V0;go_enter Tryz.func41,Tryz.ntmps41;go_wp2_with fail;clear hcv;go_loopw [10] (fun i wr=>∃ k:Nat,k≤n∧i=.int .i64 k∧Hid (Vec wr w.heap.size (encB (upK l k)))∧Ext w wr) (fun i _=>n - (intOf i).toNat)
 case atStart=>exact ⟨0,by omega,rfl,V0',X0⟩
 case round =>
  obtain ⟨k,hk,rfl,V,X⟩:=hrel;by_cases hlt:k<n
  ·obtain ⟨c,hc⟩:∃ c,l[k]?=some c:=⟨_,List.getElem?_eq_getElem (by rw [HN.out];exact hlt)⟩;obtain ⟨a0,f0⟩:=V.out k _ (encB_at (upK_at hc));have i1:(0:Int)≤(k:Int):=by omega
   have i2:(k:Int)<(n:Int):=by omega
   have hz:c.toNat<256:=UInt8.toNat_lt c;have VP:=V.out.put k (by rw [encB_length,upK_length,HN.out];exact hlt) (.int .u8 ((upC c).toNat:Int));have es:(encB (upK l k)).set k (.int .u8 ((upC c).toNat:Int))=encB (upK l (k+1)):=by rw [upK_succ hc];simp [encB,List.map_set]
   rw [es] at VP;by_cases hs:97≤c.toNat∧c.toNat≤122
   ·have eu:=upC_small hs;rw [eu] at VP;have HV:Hid (Vec (wr.setCell ⟨w.heap.size,k,none⟩ (.int .u8 ((c.toNat:Int) - 32))) w.heap.size (encB (upK l (k+1)))):=VP;obtain ⟨z,ez⟩:∃ z:Int,(c.toNat:Int)=z:=⟨_,rfl⟩;rw [ez] at a0 HV;have z1:97≤z:=(by omega);have z2:z≤122:=(by omega);clear V VP es eu hc hs ez hz;go_wp2_with fail;go_roundw
    case rel=>exact ⟨k+1,by omega,by go_num,by first | exact HV | (show Vec _ _ _;have:=HV.out;rw [show z - 97+65=z - 32 by omega];exact this),xset X (Nat.le_refl _) _⟩
    case measure=>simp [intOf];omega
   ·have eu:=upC_other hs;have HV:Hid (Vec wr w.heap.size (encB (upK l (k+1)))):=by
     show Vec _ _ _;have:upK l (k+1)=upK l k:=by
      rw [upK_succ hc,eu];exact List.ext_getElem? fun i=>by
       rw [List.getElem?_set]
       split
       ·next e=>subst e;rw [if_pos (by rw [upK_length,HN.out];exact hlt)];exact (upK_at hc).symm
       ·rfl
     rw [this];exact V.out
    obtain ⟨z,ez⟩:∃ z:Int,(c.toNat:Int)=z:=⟨_,rfl⟩;rw [ez] at a0;have z3:0≤z∧z≤255:=(by omega);have z4:z<97∨122<z:=(by omega);clear V VP es eu hc hs ez hz
    rcases z4 with z4 | z4
    ·go_wp2_with fail;go_roundw
     case rel=>exact ⟨k+1,by omega,by go_num,HV,X⟩
     case measure=>simp [intOf];omega
    ·have z5:97≤z:=(by omega);go_wp2_with fail;go_roundw
     case rel=>exact ⟨k+1,by omega,by go_num,HV,X⟩
     case measure=>simp [intOf];omega
  ·obtain rfl:k=n:=by omega
   have hb:=bytes_back (l.map upC) w.heap.size cap wr (by have:=V.out;rw [← HN.out,upK_all] at this;exact this);rw [List.length_map,HN.out] at hb;go_wp2_with fail;go_ret;exact ⟨rfl,X⟩
set_option maxRecDepth 8000 in
set_option maxHeartbeats 1000000 in
theorem capsS (l:List UInt8) (w:World) (hl:l.length≤2000000) :
  Calls Tryz.prog 97 #[sV l] w fun e w'=>e=.returned (sV (l.map upC))∧Ext w w':=by
 obtain ⟨cap,wb,hcv,hcap,X0,V0⟩:=bytes_made l w;obtain ⟨n,hn⟩:∃ n,l.length=n:=⟨_,rfl⟩;rw [hn] at hcv hcap hl;have HN:Hid (l.length=n):=hn;have V0':Hid (Vec wb w.heap.size (encB (upK l 0))):=by show Vec _ _ _;rw [upK_zero];exact V0
 clear hn V0;go_enter Tryz.func97,Tryz.ntmps97;go_wp2_with fail;clear hcv;go_loopw [10] (fun i wr=>∃ k:Nat,k≤n∧i=.int .i64 k∧Hid (Vec wr w.heap.size (encB (upK l k)))∧Ext w wr) (fun i _=>n - (intOf i).toNat)
 case atStart=>exact ⟨0,by omega,rfl,V0',X0⟩
 case round =>
  obtain ⟨k,hk,rfl,V,X⟩:=hrel;by_cases hlt:k<n
  ·obtain ⟨c,hc⟩:∃ c,l[k]?=some c:=⟨_,List.getElem?_eq_getElem (by rw [HN.out];exact hlt)⟩;obtain ⟨a0,f0⟩:=V.out k _ (encB_at (upK_at hc));have i1:(0:Int)≤(k:Int):=by omega
   have i2:(k:Int)<(n:Int):=by omega
   have hz:c.toNat<256:=UInt8.toNat_lt c;have VP:=V.out.put k (by rw [encB_length,upK_length,HN.out];exact hlt) (.int .u8 ((upC c).toNat:Int));have es:(encB (upK l k)).set k (.int .u8 ((upC c).toNat:Int))=encB (upK l (k+1)):=by rw [upK_succ hc];simp [encB,List.map_set]
   rw [es] at VP;by_cases hs:97≤c.toNat∧c.toNat≤122
   ·have eu:=upC_small hs;rw [eu] at VP;have HV:Hid (Vec (wr.setCell ⟨w.heap.size,k,none⟩ (.int .u8 ((c.toNat:Int) - 32))) w.heap.size (encB (upK l (k+1)))):=VP;obtain ⟨z,ez⟩:∃ z:Int,(c.toNat:Int)=z:=⟨_,rfl⟩;rw [ez] at a0 HV;have z1:97≤z:=(by omega);have z2:z≤122:=(by omega);clear V VP es eu hc hs ez hz;go_wp2_with fail;go_roundw
    case rel=>exact ⟨k+1,by omega,by go_num,HV,xset X (Nat.le_refl _) _⟩
    case measure=>simp [intOf];omega
   ·have eu:=upC_other hs;have HV:Hid (Vec wr w.heap.size (encB (upK l (k+1)))):=by
     show Vec _ _ _;have:upK l (k+1)=upK l k:=by
      rw [upK_succ hc,eu];exact List.ext_getElem? fun i=>by
       rw [List.getElem?_set]
       split
       ·next e=>subst e;rw [if_pos (by rw [upK_length,HN.out];exact hlt)];exact (upK_at hc).symm
       ·rfl
     rw [this];exact V.out
    obtain ⟨z,ez⟩:∃ z:Int,(c.toNat:Int)=z:=⟨_,rfl⟩;rw [ez] at a0;have z3:0≤z∧z≤255:=(by omega);have z4:z<97∨122<z:=(by omega);clear V VP es eu hc hs ez hz
    rcases z4 with z4 | z4
    ·go_wp2_with fail;go_roundw
     case rel=>exact ⟨k+1,by omega,by go_num,HV,X⟩
     case measure=>simp [intOf];omega
    ·have z5:97≤z:=(by omega);go_wp2_with fail;go_roundw
     case rel=>exact ⟨k+1,by omega,by go_num,HV,X⟩
     case measure=>simp [intOf];omega
  ·obtain rfl:k=n:=by omega
   have hb:=bytes_back (l.map upC) w.heap.size cap wr (by have:=V.out;rw [← HN.out,upK_all] at this;exact this);rw [List.length_map,HN.out] at hb;go_wp2_with fail;go_ret;exact ⟨rfl,X⟩
end Go.Proofs.YtkadkfmidlhedaaGreatDoor

