import Derived.Test.YteliaeejooekbaaGreatDoorMg11
import Derived.Deep.RegionHeld3
import Derived.Test.YteliaeejooekbaaGreatDoorBase
import Derived.Deep.MidRow
import Derived.Test.YteliaeejooekbaaGreatDoorMg1
import Derived.Test.YteliaeejooekbaaGreatDoorMg10
import Derived.Deep.DeepCutAuto
set_option maxRecDepth 8000
set_option maxHeartbeats 4000000
namespace Go.Proofs.YteliaeejooekbaaGreatDoor
open Go.RowKit
abbrev moV (r c:Int) (f g:Bool) (r' c':Int) (f' g':Bool) (x y:Int):Value:=.agg #[iQ r,iQ c,.bool f,.bool g,iQ r',iQ c',.bool f',.bool g',iQ x,iQ y]
theorem Vec.made10 (w:World) (v0 v1 v2 v3 v4 v5 v6 v7 v8 v9:Value) (t:TypeId):Vec (w.alloc (.cells #[v0,v1,v2,v3,v4,v5,v6,v7,v8,v9] t)) w.heap.size [v0,v1,v2,v3,v4,v5,v6,v7,v8,v9]:=by
 intro i v hi
 match i,hi with
 | 0,hi=>cases hi;exact ⟨by simp [go_sem],by simp [go_sem]⟩
 | 1,hi=>cases hi;exact ⟨by simp [go_sem],by simp [go_sem]⟩
 | 2,hi=>cases hi;exact ⟨by simp [go_sem],by simp [go_sem]⟩
 | 3,hi=>cases hi;exact ⟨by simp [go_sem],by simp [go_sem]⟩
 | 4,hi=>cases hi;exact ⟨by simp [go_sem],by simp [go_sem]⟩
 | 5,hi=>cases hi;exact ⟨by simp [go_sem],by simp [go_sem]⟩
 | 6,hi=>cases hi;exact ⟨by simp [go_sem],by simp [go_sem]⟩
 | 7,hi=>cases hi;exact ⟨by simp [go_sem],by simp [go_sem]⟩
 | 8,hi=>cases hi;exact ⟨by simp [go_sem],by simp [go_sem]⟩
 | 9,hi=>cases hi;exact ⟨by simp [go_sem],by simp [go_sem]⟩
theorem Vec.box10 {w:World} {b:Nat} {v0 v1 v2 v3 v4 v5 v6 v7 v8 v9:Value} (h:Vec w b [v0,v1,v2,v3,v4,v5,v6,v7,v8,v9]) :
  (w.cell? ⟨b,0,none⟩=some v0/\w.cell? ⟨b,1,none⟩=some v1/\w.cell? ⟨b,2,none⟩=some v2/\w.cell? ⟨b,3,none⟩=some v3/\w.cell? ⟨b,4,none⟩=some v4/\w.cell? ⟨b,5,none⟩=some v5/\w.cell? ⟨b,6,none⟩=some v6/\w.cell? ⟨b,7,none⟩=some v7/\w.cell? ⟨b,8,none⟩=some v8/\w.cell? ⟨b,9,none⟩=some v9) /\
  w.frozen? ⟨b,0,none⟩=false/\w.frozen? ⟨b,1,none⟩=false/\w.frozen? ⟨b,2,none⟩=false/\w.frozen? ⟨b,3,none⟩=false/\w.frozen? ⟨b,4,none⟩=false/\w.frozen? ⟨b,5,none⟩=false/\w.frozen? ⟨b,6,none⟩=false/\w.frozen? ⟨b,7,none⟩=false/\w.frozen? ⟨b,8,none⟩=false/\w.frozen? ⟨b,9,none⟩=false:=
 ⟨⟨(h 0 _ rfl).1,(h 1 _ rfl).1,(h 2 _ rfl).1,(h 3 _ rfl).1,(h 4 _ rfl).1,(h 5 _ rfl).1,(h 6 _ rfl).1,(h 7 _ rfl).1,(h 8 _ rfl).1,(h 9 _ rfl).1⟩,
  (h 0 _ rfl).2,(h 1 _ rfl).2,(h 2 _ rfl).2,(h 3 _ rfl).2,(h 4 _ rfl).2,(h 5 _ rfl).2,(h 6 _ rfl).2,(h 7 _ rfl).2,(h 8 _ rfl).2,(h 9 _ rfl).2⟩
theorem zR6 (r c:Int) (w:World) :
  Calls Tryz.prog 76 #[iQ r,iQ c] w fun e w'=>e=.returned (.bool (zAL r c))/\Ext w w':=by
 go_enter Tryz.func76,Tryz.ntmps76;go_wp2_with fail;refine (zCJ _ _ _ _ _).mono ?_;rintro e w1 ⟨rfl,e1⟩
 go_wp2
 go_ret;exact ⟨rfl,e1⟩
def insB (a b c d r s:Int):Bool:=decide ((a<=r/\r<=b)/\c<=s/\s<=d)
theorem zJP (r c:Int) (f g:Bool) (r' c':Int) (f' g':Bool) (s d:Int) (h k:Bool) (w:World) :
  Calls Tryz.prog 50 #[arV r c f g r' c' f' g',refV s d h k] w fun e w'=>e=.returned (.bool (insB r r' c c' s d))/\Ext w w':=by
 unfold insB;go_enter Tryz.func50,Tryz.ntmps50
 go_wp2
 all_goals go_ret
 all_goals refine ⟨zA1 ?_,xa (x1 _ _) _⟩
 all_goals rw [Bool.eq_iff_iff]
 all_goals first | (simp only [decide_eq_true_eq];omega) | (simp;omega)
def fa (m:Int) (d:Bool):Int:=if d then -m else m
theorem zED (a b:Int):(b<a/\lo a b=b)\/(a<=b/\lo a b=a):=by
 unfold lo
 split
 ·exact .inl ⟨by assumption,rfl⟩
 ·exact .inr ⟨by omega,rfl⟩
theorem zEZ (a b:Int):(b<a/\hi a b=a)\/(a<=b/\hi a b=b):=by
 unfold hi
 split
 ·exact .inl ⟨by assumption,rfl⟩
 ·exact .inr ⟨by omega,rfl⟩
section
variable {l a m:Int} {d:Bool} (hm:1<=m) (ha:1<=a) (hl:a<=l) (hd:d=true->a+m - 1<=l)
include hm ha hl hd
end
theorem zF2 {r c r' c':Int} (h:zAV r c r' c'=true):((1<=r/\r<=1000)/\1<=c/\c<=200)/\(1<=r'/\r'<=1000)/\1<=c'/\c'<=200:=by
 unfold zAV zAL at h;simp at h;exact h
def zBA (r c r' c' x y:Int):Bool:=zAV r c r' c' && zAL x y && zAL (hi r r'+(x - lo r r')) (hi c c'+(y - lo c c'))
def MvP (r c r' c' x y:Int) (e:Ending):Prop:=∃ n1 n2 n3 n4:Int,(zBA r c r' c' x y=true->n1=lo r r'/\n2=lo c c'/\n3=hi r r'/\n4=hi c c')/\e=.returned (.tuple #[arV n1 n2 false false n3 n4 false false,iQ (if zBA r c r' c' x y=true then x - lo r r' else 0),iQ (if zBA r c r' c' x y=true then y - lo c c' else 0),.bool (zBA r c r' c' x y)])
theorem zNS (x:Int):lo x x=x:=by unfold lo;split <;> rfl
theorem zO4 (x:Int):hi x x=x:=by unfold hi;split <;> rfl
theorem zNE (r c:Int) (f g:Bool) (r' c':Int) (f' g':Bool) (x y:Int) (w:World) :
  Calls Tryz.prog 49 #[moV r c f g r' c' f' g' x y] w fun e w'=>MvP r c r' c' x y e/\Ext w w':=by
 have GA:=fun w=>zO8 r c f g r' c' f' g' w;have HU:=fun w=>hullS r c f g r' c' f' g' r c f g r' c' f' g' w;have B1:=Vec.made10 w (iQ r) (iQ c) (.bool f) (.bool g) (iQ r') (iQ c') (.bool f') (.bool g') (iQ x) (iQ y) 45;have X:=x1 w (.cells #[iQ r,iQ c,.bool f,.bool g,iQ r',iQ c',.bool f',.bool g',iQ x,iQ y] 45);obtain ⟨wa,ha⟩:=nm (w.alloc (.cells #[iQ r,iQ c,.bool f,.bool g,iQ r',iQ c',.bool f',.bool g',iQ x,iQ y] 45));rw [ha] at B1 X;have sa:wa.heap.size=w.heap.size+1:=by rw [<- ha,World.size_alloc]
 have B2:=Vec.made8 wa (iQ 0) (iQ 0) (.bool false) (.bool false) (iQ 0) (iQ 0) (.bool false) (.bool false) 43;have x2:=x1 wa (.cells #[iQ 0,iQ 0,.bool false,.bool false,iQ 0,iQ 0,.bool false,.bool false] 43);cases hg:zAV r c r' c'
 ·have hd:zBA r c r' c' x y=false:=by unfold zBA;rw [hg];rfl
  rw [hg] at GA;have HD:Hid _:=hd;clear hg HU hd;go_enter Tryz.func49,Tryz.ntmps49;go_upto_region 1 with fail
  (try rw [ha])
  obtain ⟨w0,hw0⟩:=nm (wa.alloc (.cells #[iQ 0,iQ 0,.bool false,.bool false,iQ 0,iQ 0,.bool false,.bool false] 43));rw [hw0] at B2 x2 ⊢;rw [sa] at B2;replace B1:=B1.l x2;replace X:=xt X x2;clear ha hw0 sa x2;obtain ⟨⟨a0,a1,a2,a3,a4,a5,a6,a7,a8,a9⟩,_⟩:=B1.box10;go_wp2_with fail;refine (GA _).mono ?_;rintro e w1 ⟨rfl,e1⟩;obtain ⟨⟨⟨m0,m1,m2,m3⟩,m4,m5,m6,m7⟩,⟨m8,m9,mA,mB⟩,mC,mD,mE,mF⟩:=(B2.l e1).box8
  go_wp2
  exact bodyPost_ret (v:=.tuple #[arV 0 0 false false 0 0 false false,iQ 0,iQ 0,.bool false]) (by simp [results,Tryz.results49,go_sem,m0,m1,m2,m3,m4,m5,m6,m7]) rfl ⟨⟨0,0,0,0,fun h=>(by rw [HD.out] at h;cases h),by rw [HD.out];rfl⟩,Ext.set8 (xt X e1) (by omega) _ _ _ _ _ _ _ _⟩
 ·rw [hg] at GA;have hH:zHO r c r' c' r c r' c'=arV (lo r r') (lo c c') false false (hi r r') (hi c c') false false:=by
   unfold zHO;rw [if_pos ⟨hg,hg⟩,zNS,zNS,zO4,zO4]
  rw [hH] at HU;have hg':=zF2 hg;have L1:=zED r r';have L2:=zED c c';have L3:=zEZ r r';have L4:=zEZ c c';have P1:=fun w=>zR6 x y w;obtain ⟨dd,hdd⟩:=nm (zBA r c r' c' x y);have hd0:=hdd;unfold zBA at hd0;rw [hg,Bool.true_and] at hd0;have HD:Hid _:=hdd;obtain ⟨R0,h1⟩:=nm (lo r r');obtain ⟨C0,h2⟩:=nm (lo c c');obtain ⟨R1,h3⟩:=nm (hi r r');obtain ⟨C1,h4⟩:=nm (hi c c');rw [h1,h2,h3,h4] at HU hd0;rw [h1] at L1;rw [h2] at L2;rw [h3] at L3;rw [h4] at L4;have H1:Hid (lo r r'=R0/\lo c c'=C0/\hi r r'=R1/\hi c c'=C1):=⟨h1,h2,h3,h4⟩;have bR:1<=R0/\R0<=1000/\1<=R1/\R1<=1000:=by omega
  have bC:1<=C0/\C0<=200/\1<=C1/\C1<=200:=by omega
  clear hg hH hg' L1 L2 L3 L4 h1 h2 h3 h4 hdd;go_enter Tryz.func49,Tryz.ntmps49;go_upto_region 1 with fail
  (try rw [ha])
  obtain ⟨w0,hw0⟩:=nm (wa.alloc (.cells #[iQ 0,iQ 0,.bool false,.bool false,iQ 0,iQ 0,.bool false,.bool false] 43));have s0:w0.heap.size=w.heap.size+1+1:=by rw [<- hw0,World.size_alloc,sa]
  rw [hw0] at B2 x2 ⊢;rw [sa] at B2;replace B1:=B1.l x2;replace X:=xt X x2;clear ha hw0 sa x2;obtain ⟨⟨a0,a1,a2,a3,a4,a5,a6,a7,a8,a9⟩,_⟩:=B1.box10;go_wp2_with fail;refine (GA _).mono ?_;rintro e w1 ⟨rfl,e1⟩;clear a0 a1 a2 a3 a4 a5 a6 a7 a8 a9 GA;have s1:=e1.size;replace B1:=B1.l e1;replace B2:=B2.l e1;replace X:=xt X e1;clear e1;obtain ⟨⟨a0,a1,a2,a3,a4,a5,a6,a7,a8,a9⟩,_⟩:=B1.box10;go_wp2_with fail;refine (HU _).mono ?_;rintro e w2 ⟨rfl,e2⟩;clear a0 a1 a2 a3 a4 a5 a6 a7 a8 a9 HU;have s2:=e2.size;replace B1:=B1.l e2;replace B2:=B2.l e2;replace X:=xt X e2;clear e2;obtain ⟨⟨a0,a1,a2,a3,a4,a5,a6,a7,a8,a9⟩,_⟩:=B1.box10;go_upto_region 4 with fail;have B6:=Vec.made8 w2 (iQ R0) (iQ C0) (.bool false) (.bool false) (iQ R1) (iQ C1) (.bool false) (.bool false) 43;have x6:=x1 w2 (.cells #[iQ R0,iQ C0,.bool false,.bool false,iQ R1,iQ C1,.bool false,.bool false] 43);obtain ⟨w3,hw3⟩:=nm (w2.alloc (.cells #[iQ R0,iQ C0,.bool false,.bool false,iQ R1,iQ C1,.bool false,.bool false] 43));rw [hw3] at B6 x6 ⊢;obtain ⟨b6,hb6⟩:=nm (w2.heap.size);rw [hb6] at B6 ⊢;clear hw3 a0 a1 a2 a3 a4 a5 a6 a7 a8 a9;replace B1:=B1.l x6;replace B2:=B2.l x6;replace X:=xt X x6;have g6:w.heap.size+1+1<=b6:=by omega
  clear x6 s1 s2 s0 hb6;obtain ⟨⟨a0,a1,a2,a3,a4,a5,a6,a7,a8,a9⟩,_⟩:=B1.box10;obtain ⟨⟨⟨p0,p1,p2,p3⟩,p4,p5,p6,p7⟩,_⟩:=B6.box8;obtain ⟨dx,hdx⟩:=nm (IntKind.i64.wrap (x - R0));obtain ⟨dy,hdy⟩:=nm (IntKind.i64.wrap (y - C0));go_wp2_with fail;refine (P1 _).mono ?_;rintro e w4 ⟨rfl,e4⟩;clear a0 a1 a2 a3 a4 a5 a6 a7 a8 a9 p0 p1 p2 p3 p4 p5 p6 p7 P1 B1;replace B2:=B2.l e4;replace B6:=B6.l e4;replace X:=xt X e4;clear e4;obtain ⟨⟨⟨p0,p1,p2,p3⟩,p4,p5,p6,p7⟩,_⟩:=B6.box8;obtain ⟨⟨⟨m0,m1,m2,m3⟩,m4,m5,m6,m7⟩,⟨m8,m9,mA,mB⟩,mC,mD,mE,mF⟩:=B2.box8;cases hp:zAL x y
  ·rw [hp,Bool.false_and] at hd0;subst hd0;clear hdx hdy
   go_wp2
   exact bodyPost_ret (v:=.tuple #[arV R0 C0 false false R1 C1 false false,iQ 0,iQ 0,.bool false]) (by simp [results,Tryz.results49,go_sem,m0,m1,m2,m3,m4,m5,m6,m7]) rfl ⟨⟨R0,C0,R1,C1,fun _=>⟨H1.out.1.symm,H1.out.2.1.symm,H1.out.2.2.1.symm,H1.out.2.2.2.symm⟩,by rw [HD.out];rfl⟩,Ext.set8 X (by omega) _ _ _ _ _ _ _ _⟩
  ·rw [hp,Bool.true_and] at hd0;have hp':=of_decide_eq_true hp;have e1:dx=x - R0:=by rw [<- hdx,IntKind.wrap_i64];omega
   have e2:dy=y - C0:=by rw [<- hdy,IntKind.wrap_i64];omega
   have e3:IntKind.i64.wrap (R1+dx)=R1+dx:=by rw [e1,IntKind.wrap_i64];omega
   have e4:IntKind.i64.wrap (C1+dy)=C1+dy:=by rw [e2,IntKind.wrap_i64];omega
   rw [<- e1,<- e2] at hd0;have E1:Hid (dx=x - R0/\dy=y - C0):=⟨e1,e2⟩;have P2:=fun w=>zR6 (R1+dx) (C1+dy) w;rw [hd0] at P2;clear hp hp' hdx hdy e1 e2 hd0;go_wp2_with fail;refine (P2 _).mono ?_;rintro e w5 ⟨rfl,e5⟩;clear p0 p1 p2 p3 p4 p5 p6 p7 m0 m1 m2 m3 m4 m5 m6 m7 m8 m9 mA mB mC mD mE mF P2;replace B2:=B2.l e5;replace B6:=B6.l e5;replace X:=xt X e5;clear e5;obtain ⟨⟨⟨p0,p1,p2,p3⟩,p4,p5,p6,p7⟩,_⟩:=B6.box8;obtain ⟨⟨⟨m0,m1,m2,m3⟩,m4,m5,m6,m7⟩,⟨m8,m9,mA,mB⟩,mC,mD,mE,mF⟩:=B2.box8;cases dd
   ·go_wp2
    exact bodyPost_ret (v:=.tuple #[arV R0 C0 false false R1 C1 false false,iQ 0,iQ 0,.bool false]) (by simp [results,Tryz.results49,go_sem,m0,m1,m2,m3,m4,m5,m6,m7]) rfl ⟨⟨R0,C0,R1,C1,fun _=>⟨H1.out.1.symm,H1.out.2.1.symm,H1.out.2.2.1.symm,H1.out.2.2.2.symm⟩,by rw [HD.out];rfl⟩,Ext.set8 X (by omega) _ _ _ _ _ _ _ _⟩
   ·go_wp2
    exact bodyPost_ret (v:=.tuple #[arV R0 C0 false false R1 C1 false false,iQ dx,iQ dy,.bool true]) (by simp [results,Tryz.results49,go_sem,m0,m1,m2,m3,m4,m5,m6,m7]) rfl ⟨⟨R0,C0,R1,C1,fun _=>⟨H1.out.1.symm,H1.out.2.1.symm,H1.out.2.2.1.symm,H1.out.2.2.2.symm⟩,by rw [HD.out,H1.out.1,H1.out.2.1,E1.out.1,E1.out.2];rfl⟩,Ext.set8 X (by omega) _ _ _ _ _ _ _ _⟩
def mrB (r c r' c' x y s d:Int) (h k:Bool):Value:=
 if zBA r c r' c' x y=true/\insB (lo r r') (hi r r') (lo c c') (hi c c') s d=true then refV (s+(x - lo r r')) (d+(y - lo c c')) h k else refV s d h k
theorem zE9 {r c r' c' x y:Int} (h:zBA r c r' c' x y=true):(1<=lo r r'/\lo r r'<=1000/\1<=lo c c'/\lo c c'<=200)/\(1<=x/\x<=1000/\1<=y/\y<=200)/\(1<=hi r r'/\hi r r'<=1000/\1<=hi c c'/\hi c c'<=200):=by
 unfold zBA at h;simp only [Bool.and_eq_true] at h;obtain ⟨⟨h1,h2⟩,_⟩:=h;have g1:=zF2 h1;have g2:(1<=x/\x<=1000)/\1<=y/\y<=200:=of_decide_eq_true h2;have:=zED r r';have:=zED c c';have:=zEZ r r';have:=zEZ c c';omega
theorem zR8 (r c:Int) (f g:Bool) (r' c':Int) (f' g':Bool) (x y:Int) (s d:Int) (h k:Bool) (w:World) :
  Calls Tryz.prog 20 #[moV r c f g r' c' f' g' x y,refV s d h k] w fun e w'=>e=.returned (mrB r c r' c' x y s d h k)/\Ext w w':=by
 obtain ⟨V,hV⟩:=nm (mrB r c r' c' x y s d h k);rw [hV];unfold mrB at hV;have MV:=fun w=>zNE r c f g r' c' f' g' x y w;have B2:=Vec.made10 w (iQ r) (iQ c) (.bool f) (.bool g) (iQ r') (iQ c') (.bool f') (.bool g') (iQ x) (iQ y) 45;have X:=x1 w (.cells #[iQ r,iQ c,.bool f,.bool g,iQ r',iQ c',.bool f',.bool g',iQ x,iQ y] 45);obtain ⟨wa,ha⟩:=nm (w.alloc (.cells #[iQ r,iQ c,.bool f,.bool g,iQ r',iQ c',.bool f',.bool g',iQ x,iQ y] 45));rw [ha] at B2 X;have sa:wa.heap.size=w.heap.size+1:=by rw [<- ha,World.size_alloc]
 have B3:=Vec.made4 wa (iQ s) (iQ d) (.bool h) (.bool k) 26;have x3:=x1 wa (.cells #[iQ s,iQ d,.bool h,.bool k] 26);obtain ⟨wb,hb⟩:=nm (wa.alloc (.cells #[iQ s,iQ d,.bool h,.bool k] 26));rw [hb] at B3 x3;have sb:wb.heap.size=w.heap.size+1+1:=by rw [<- hb,World.size_alloc,sa]
 have B4:=Vec.made4 wb (iQ 0) (iQ 0) (.bool false) (.bool false) 26;have x4:=x1 wb (.cells #[iQ 0,iQ 0,.bool false,.bool false] 26);rw [sa] at B3;go_enter Tryz.func20,Tryz.ntmps20;go_upto_region 1 with fail
 (try rw [ha])
 (try rw [hb])
 obtain ⟨w0,hw0⟩:=nm (wb.alloc (.cells #[iQ 0,iQ 0,.bool false,.bool false] 26));have s0:w0.heap.size=w.heap.size+1+1+1:=by rw [<- hw0,World.size_alloc,sb]
 rw [hw0] at B4 x4 ⊢;rw [sb] at B4;replace B2:=(B2.l x3).l x4;replace B3:=B3.l x4;replace X:=xt (xt X x3) x4;clear ha hb hw0 sa sb x3 x4;obtain ⟨⟨a0,a1,a2,a3,a4,a5,a6,a7,a8,a9⟩,_⟩:=B2.box10;go_wp2_with fail;refine (MV _).mono ?_;rintro e w1 ⟨⟨n1,n2,n3,n4,hn,rfl⟩,e1⟩;have s1:=e1.size;clear a0 a1 a2 a3 a4 a5 a6 a7 a8 a9 MV B2;replace B3:=B3.l e1;replace B4:=B4.l e1;replace X:=xt X e1;clear e1;cases hd:zBA r c r' c' x y
 ·rw [hd] at hV;have Z:Hid (refV s d h k=V):=by unfold Hid;rw [<- hV];simp
  clear hV hd hn;rw [if_neg (by decide),if_neg (by decide)];go_upto_region 2 with fail;have x5:=x1 w1 (.cells #[iQ n1,iQ n2,.bool false,.bool false,iQ n3,iQ n4,.bool false,.bool false] 43);obtain ⟨w2,hw2⟩:=nm (w1.alloc (.cells #[iQ n1,iQ n2,.bool false,.bool false,iQ n3,iQ n4,.bool false,.bool false] 43));rw [hw2] at x5 ⊢;clear hw2;obtain ⟨⟨a0,a1,a2,a3⟩,_⟩:=(B3.l x5).box4;obtain ⟨⟨m0,m1,m2,m3⟩,m4,m5,m6,m7⟩:=(B4.l x5).box4
  go_wp2
  exact bodyPost_ret (v:=refV s d h k) (by simp [results,Tryz.results20,go_sem,m0,m1,m2,m3]) rfl ⟨congrArg Ending.returned Z.out,Ext.set4 (o:=0) (xt X x5) (by omega) _ _ _ _⟩
 ·obtain ⟨rfl,rfl,rfl,rfl⟩:=hn hd;have bd:=zE9 hd;rw [hd] at hV;rw [if_pos rfl,if_pos rfl];obtain ⟨R0,h1⟩:=nm (lo r r');obtain ⟨C0,h2⟩:=nm (lo c c');obtain ⟨R1,h3⟩:=nm (hi r r');obtain ⟨C1,h4⟩:=nm (hi c c');rw [h1,h2,h3,h4] at hV bd;rw [h1,h2,h3,h4];obtain ⟨dx,hdx⟩:=nm (x - R0);obtain ⟨dy,hdy⟩:=nm (y - C0);rw [hdx,hdy] at hV;rw [hdx,hdy];have IN:=fun w=>zJP R0 C0 false false R1 C1 false false s d h k w;obtain ⟨q,hq⟩:=nm (insB R0 R1 C0 C1 s d);rw [hq] at IN hV;have Z:Hid (q=false->refV s d h k=V):=fun e=>by rw [<- hV,e];simp
  have Y:Hid (q=true->refV (s+dx) (d+dy) h k=V):=fun e=>by rw [<- hV,e];simp
  have ws:q=true->IntKind.i64.wrap (s+dx)=s+dx/\IntKind.i64.wrap (d+dy)=d+dy:=fun e=>by
   rw [e] at hq;have:=of_decide_eq_true hq;rw [IntKind.wrap_i64,IntKind.wrap_i64];omega
  have WS:Hid _:=ws;clear hV hn hd bd h1 h2 h3 h4 hdx hdy hq ws;go_upto_region 2 with fail;have B5:=Vec.made8 w1 (iQ R0) (iQ C0) (.bool false) (.bool false) (iQ R1) (iQ C1) (.bool false) (.bool false) 43;have x5:=x1 w1 (.cells #[iQ R0,iQ C0,.bool false,.bool false,iQ R1,iQ C1,.bool false,.bool false] 43);obtain ⟨w2,hw2⟩:=nm (w1.alloc (.cells #[iQ R0,iQ C0,.bool false,.bool false,iQ R1,iQ C1,.bool false,.bool false] 43));rw [hw2] at B5 x5 ⊢;replace B3:=B3.l x5;replace B4:=B4.l x5;replace X:=xt X x5;clear hw2 x5;obtain ⟨⟨a0,a1,a2,a3⟩,_⟩:=B3.box4;obtain ⟨⟨⟨p0,p1,p2,p3⟩,p4,p5,p6,p7⟩,_⟩:=B5.box8;go_wp2_with fail;refine (IN _).mono ?_;rintro e w3 ⟨rfl,e3⟩;clear a0 a1 a2 a3 p0 p1 p2 p3 p4 p5 p6 p7 IN B5;replace B3:=B3.l e3;replace B4:=B4.l e3;replace X:=xt X e3;clear e3;obtain ⟨⟨a0,a1,a2,a3⟩,a4,a5,a6,a7⟩:=B3.box4;obtain ⟨⟨m0,m1,m2,m3⟩,m4,m5,m6,m7⟩:=B4.box4;cases q
  ·have ZZ:Hid (refV s d h k=V):=Z.out rfl;clear Z Y WS
   go_wp2
   exact bodyPost_ret (v:=refV s d h k) (by simp [results,Tryz.results20,go_sem,m0,m1,m2,m3]) rfl ⟨congrArg Ending.returned ZZ.out,Ext.set4 (o:=0) X (by omega) _ _ _ _⟩
  ·have ZZ:Hid (refV (s+dx) (d+dy) h k=V):=Y.out rfl;obtain ⟨e1,e2⟩:=WS.out rfl;clear Z Y WS
   go_wp2
   exact bodyPost_ret (v:=refV (s+dx) (d+dy) h k) (by simp [results,Tryz.results20,go_sem,m0,m1,m2,m3]) rfl ⟨congrArg Ending.returned ZZ.out,Ext.set4 (o:=0) (xset (xset X (by simp only;omega) _) (by simp only;omega) _) (by omega) _ _ _ _⟩
theorem zAQ {P:Program} {ops:Array Oper} {rest:List Oper} {op:Oper} {a:Act} {w w':World} {Q:Exit->Act->World->Prop} (hgd:op.guard=none) (ty:TypeId) (x y:Operand) (ho:op.op=.store ty x y)
  (b o:Nat) (cells:Array Value) (hx:a.eval x=.pointer (some ⟨b,o,none⟩)) (hy:a.eval y=.agg cells)
  (ht:w.there b o cells.size) (hi:(P.info? ty).map (·.size)=some cells.size) (h1:cells.all (·.oneCell')=true) (e:w.setCells b o cells.toList=w')
  (h:wpList P ops Q rest (a.put op.dst undef) w'):wpList P ops Q (op :: rest) a w:=
 wpList_store_mid hgd ty x y ho b o cells hx hy ht hi h1 (by rw [e];exact h)
theorem Only.setNew {b g i:Nat} {w w':World} (h:Only b w w') (hg:w.heap.size<=g) (u:Value):Only b w (w'.setCell ⟨g,i,none⟩ u):=by
 refine ⟨h.os,h.tape,h.output,?_,fun k hk hl=>?_⟩
 ·have:=h.size;simpa [World.setCell] using this
 ·rw [Below.heap_setCell _ _ _ _ (by show k ≠ g;omega)];exact h.block k hk hl
theorem zGU {b g i j:Nat} (h:b ≠ g):(⟨g,i,none⟩:Addr) ≠ ⟨b,j,none⟩:=fun e=>h (by cases e;rfl)
theorem Box3.farc {w:World} {b g i:Nat} {v0 v1 v2:Value} (h:Box3 w b v0 v1 v2) (hb:b ≠ g) (u:Value):Box3 (w.setCell ⟨g,i,none⟩ u) b v0 v1 v2:=by
 obtain ⟨⟨q0,q1,q2⟩,f0,f1,f2⟩:=h;refine ⟨⟨?_,?_,?_⟩,?_,?_,?_⟩
 ·rw [World.cell?_setCell_other _ _ _ _ (zGU hb)];exact q0
 ·rw [World.cell?_setCell_other _ _ _ _ (zGU hb)];exact q1
 ·rw [World.cell?_setCell_other _ _ _ _ (zGU hb)];exact q2
 ·simp [World.frozen?_setCell,f0]
 ·simp [World.frozen?_setCell,f1]
 ·simp [World.frozen?_setCell,f2]
theorem Cur.far {w:World} {b base K g i:Nat} (h:Cur w b base K) (hb:b ≠ g) (hg:base<=g) (u:Value):Cur (w.setCell ⟨g,i,none⟩ u) b base K:=by
 obtain ⟨v,k,a,s,B,hc,r⟩:=h;exact ⟨v,k,a,s,B.farc hb u,hc.only (b:=g) ((Only.refl g w).set u) hg,r⟩
theorem Cur.made (w:World) (v:Value) (n base:Nat) (t:TypeId) (hc:zD1 w base v n) (hn:n<=1048576) (hb:base<=w.heap.size):Cur (w.alloc (.cells #[v,iQ 0,.int .u64 0] t)) w.heap.size base 0:=
 ⟨v,n,0,0,Box3.made w _ _ _ _,hc.only (b:=w.heap.size) (Only.of_ext (x1 _ _)) hb,hn,by omega,by omega,by omega,by omega,hb⟩
theorem Only.vec {b k:Nat} {w w':World} {l:List Value} (h:Only b w w') (hk:k ≠ b) (v:Vec w k l):Vec w' k l:=fun i x hi=>by
 obtain ⟨hc,hf⟩:=v i x hi;refine ⟨h.cell hk hc,?_⟩;have hlt:=World.block_lt_of_cell? _ _ hc;have:=h.block k hk hlt;unfold World.frozen? at hf ⊢;rw [this];exact hf
theorem Cur.base_le {w:World} {b base K:Nat} (h:Cur w b base K):base<=b:=by obtain ⟨_,_,_,_,_,_,_,_,_,_,_,hb⟩:=h;exact hb
theorem refC (b base K:Nat) (w:World) (h:Cur w b base K) (hK:K<=1000000) :
  Calls Tryz.prog 27 #[.pointer (some ⟨b,0,none⟩)] w fun e w'=>∃ (r c:Int) (rf cf:Bool) (K':Nat),e=.returned (refV r c rf cf)/\(1<=r/\r<=1000)/\(1<=c/\c<=200)/\K'<=K+100/\Cur w' b base K'/\Only b w w':=by
 have bl:=h.lt;have bb:=h.base_le;have X0:=x1 w (.cells #[iQ 0,iQ 0,.bool false,.bool false] 26);have V2:=Vec.made4 w (iQ 0) (iQ 0) (.bool false) (.bool false) 26;have C0:=h.ext X0;go_enter Tryz.func27,Tryz.ntmps27;go_wp2_with fail;refine (zB1 b base _ 9 _ C0 (by omega) (by omega) (by omega)).mono ?_;rintro e w1 ⟨p,rfl,⟨p0,p1⟩,c1,o1⟩;go_wp2_with fail;refine (zB1 b base _ 9 w1 c1 (by omega) (by omega) (by omega)).mono ?_;rintro e w2 ⟨q,rfl,⟨q0,q1⟩,c2,o2⟩;go_wp2_with fail;refine (oneC b base _ 3 w2 c2 (by omega) (by omega) (by omega)).mono ?_;rintro e w3 ⟨f,rfl,c3,o3⟩;go_wp2_with fail;refine (oneC b base _ 3 w3 c3 (by omega) (by omega) (by omega)).mono ?_;rintro e w4 ⟨g,rfl,c4,o4⟩;have O4:Only b w w4:=(Only.of_ext X0).trans (((o1.trans o2).trans o3).trans o4);have V2:=(((o1.trans o2).trans o3).trans o4).vec (k:=w.heap.size) (by omega) V2;have V3:=Vec.made4 w4 (iQ (1+p)) (iQ (1+q)) (.bool f) (.bool g) 26;have X5:=x1 w4 (.cells #[iQ (1+p),iQ (1+q),.bool f,.bool g] 26);have c5:=c4.ext X5;have O5:=O4.trans (Only.of_ext X5);have lt4:w.heap.size<w4.heap.size:=World.block_lt_of_cell? _ _ (V2 0 _ rfl).1;have V2:=V2.l X5;have lb4:=c4.lt;clear c1 c2 c3 o1 o2 o3 o4 O4 C0 X0 X5 h;go_wp2_with fail;refine (zB1 b base _ 9 _ c5 (by omega) (by omega) (by omega)).mono ?_;rintro e w6 ⟨x,rfl,⟨x0,x9⟩,c6,o6⟩;have V2:=o6.vec (k:=w.heap.size) (by omega) V2;have V3:=o6.vec (k:=w4.heap.size) (by omega) V3;have O6:=O5.trans o6;clear c5 c4 o6 O5;have FIN:Hid (∀ (wf:World) (r c:Int) (u v:Bool) (K':Nat),K'<=K+100->Cur wf b base K'->Only b w wf->Cur (set4 wf w.heap.size 0 (iQ r) (iQ c) (.bool u) (.bool v)) b base K'/\Only b w (set4 wf w.heap.size 0 (iQ r) (iQ c) (.bool u) (.bool v))):=fun wf r c u v K' _ hc ho =>
  ⟨(((hc.far (g:=w.heap.size) (by omega) (by omega) _).far (g:=w.heap.size) (by omega) (by omega) _).far (g:=w.heap.size) (by omega) (by omega) _).far (g:=w.heap.size) (by omega) (by omega) _,(((ho.setNew (g:=w.heap.size) (Nat.le_refl _) _).setNew (g:=w.heap.size) (Nat.le_refl _) _).setNew (g:=w.heap.size) (Nat.le_refl _) _).setNew (g:=w.heap.size) (Nat.le_refl _) _⟩
 by_cases h0:x=0
 ·subst h0;go_wp2_with fail;refine (zB1 b base _ 1000 w6 c6 (by omega) (by omega) (by omega)).mono ?_;rintro e w7 ⟨u,rfl,⟨u0,u1⟩,c7,o7⟩;have V2:=o7.vec (k:=w.heap.size) (by omega) V2;have V3:=o7.vec (k:=w4.heap.size) (by omega) V3;have O7:=O6.trans o7;obtain ⟨w8,h8⟩:=nm (w7.setCell ⟨w4.heap.size,0,none⟩ (iQ (1+u)));obtain ⟨⟨m0,m1,m2,m3⟩,f0,f1,f2,f3⟩:=V3.box4;have V3:=V3.put 0 (by simp) (iQ (1+u));have V2:=V2.far (p:=⟨w4.heap.size,0,none⟩) (by simp;omega) (iQ (1+u));have c8:=c7.far (g:=w4.heap.size) (i:=0) (by omega) (by omega) (iQ (1+u));have O8:=O7.setNew (g:=w4.heap.size) (i:=0) (by omega) (iQ (1+u));rw [h8] at V3 V2 c8 O8;simp only [List.set_cons_zero] at V3;clear c6 c7 o7 O6 O7;go_wp2_with fail;clear h8 m0 m1 m2 m3 f0 f1 f2 f3;refine (zB1 b base _ 200 w8 c8 (by omega) (by omega) (by omega)).mono ?_;rintro e w9 ⟨v,rfl,⟨v0,v1⟩,c9,o9⟩;have V2:=o9.vec (k:=w.heap.size) (by omega) V2;have V3:=o9.vec (k:=w4.heap.size) (by omega) V3;have O9:=O8.trans o9;obtain ⟨wa,ha⟩:=nm (w9.setCell ⟨w4.heap.size,1,none⟩ (iQ (1+v)));obtain ⟨⟨m0,m1,m2,m3⟩,f0,f1,f2,f3⟩:=V3.box4;have V3:=V3.put 1 (by simp) (iQ (1+v));have V2:=V2.far (p:=⟨w4.heap.size,1,none⟩) (by simp;omega) (iQ (1+v));have ca:=c9.far (g:=w4.heap.size) (i:=1) (by omega) (by omega) (iQ (1+v));have Oa:=O9.setNew (g:=w4.heap.size) (i:=1) (by omega) (iQ (1+v));rw [ha] at V3 V2 ca Oa;simp only [List.set_cons_zero,List.set_cons_succ] at V3;clear c8 c9 o9 O8 O9;obtain ⟨⟨a0,a1,a2,a3⟩,_⟩:=V3.box4;obtain ⟨⟨k0,k1,k2,k3⟩,g0,g1,g2,g3⟩:=V2.box4;go_wp2_with fail;obtain ⟨fc,fo⟩:=FIN.out wa (1+u) (1+v) f g _ (by omega) ca Oa;exact bodyPost_ret (v:=refV (1+u) (1+v) f g) (by simp [results,Tryz.results27,go_sem,k0,k1,k2,k3]) rfl ⟨_,_,_,_,_,rfl,by omega,by omega,by omega,fc,fo⟩
 ·have g0:(x == 0)=false:=by simpa using h0
  by_cases h1:x=1
  ·subst h1;go_wp2_with fail;refine (zB1 b base _ 2 w6 c6 (by omega) (by omega) (by omega)).mono ?_;rintro e w7 ⟨u,rfl,⟨u0,u1⟩,c7,o7⟩;have V2:=o7.vec (k:=w.heap.size) (by omega) V2;have V3:=o7.vec (k:=w4.heap.size) (by omega) V3;have O7:=O6.trans o7;obtain ⟨w8,h8⟩:=nm (w7.setCell ⟨w4.heap.size,0,none⟩ (iQ (1000 - u)));obtain ⟨⟨m0,m1,m2,m3⟩,f0,f1,f2,f3⟩:=V3.box4;have V3:=V3.put 0 (by simp) (iQ (1000 - u));have V2:=V2.far (p:=⟨w4.heap.size,0,none⟩) (by simp;omega) (iQ (1000 - u));have c8:=c7.far (g:=w4.heap.size) (i:=0) (by omega) (by omega) (iQ (1000 - u));have O8:=O7.setNew (g:=w4.heap.size) (i:=0) (by omega) (iQ (1000 - u));rw [h8] at V3 V2 c8 O8;simp only [List.set_cons_zero] at V3;clear c6 c7 o7 O6 O7;go_wp2_with fail;clear h8 m0 m1 m2 m3 f0 f1 f2 f3;refine (zB1 b base _ 2 w8 c8 (by omega) (by omega) (by omega)).mono ?_;rintro e w9 ⟨v,rfl,⟨v0,v1⟩,c9,o9⟩;have V2:=o9.vec (k:=w.heap.size) (by omega) V2;have V3:=o9.vec (k:=w4.heap.size) (by omega) V3;have O9:=O8.trans o9;obtain ⟨wa,ha⟩:=nm (w9.setCell ⟨w4.heap.size,1,none⟩ (iQ (200 - v)));obtain ⟨⟨m0,m1,m2,m3⟩,f0,f1,f2,f3⟩:=V3.box4;have V3:=V3.put 1 (by simp) (iQ (200 - v));have V2:=V2.far (p:=⟨w4.heap.size,1,none⟩) (by simp;omega) (iQ (200 - v));have ca:=c9.far (g:=w4.heap.size) (i:=1) (by omega) (by omega) (iQ (200 - v));have Oa:=O9.setNew (g:=w4.heap.size) (i:=1) (by omega) (iQ (200 - v));rw [ha] at V3 V2 ca Oa;simp only [List.set_cons_zero,List.set_cons_succ] at V3;clear c8 c9 o9 O8 O9;obtain ⟨⟨a0,a1,a2,a3⟩,_⟩:=V3.box4;obtain ⟨⟨k0,k1,k2,k3⟩,g0,g1,g2,g3⟩:=V2.box4;go_wp2_with fail;obtain ⟨fc,fo⟩:=FIN.out wa (1000 - u) (200 - v) f g _ (by omega) ca Oa;exact bodyPost_ret (v:=refV (1000 - u) (200 - v) f g) (by simp [results,Tryz.results27,go_sem,k0,k1,k2,k3]) rfl ⟨_,_,_,_,_,rfl,by omega,by omega,by omega,fc,fo⟩
  ·have g1:(x == 1)=false:=by simpa using h1
   obtain ⟨⟨a0,a1,a2,a3⟩,_⟩:=V3.box4;obtain ⟨⟨k0,k1,k2,k3⟩,e0,e1,e2,e3⟩:=V2.box4;go_wp2_with fail;obtain ⟨fc,fo⟩:=FIN.out w6 (1+p) (1+q) f g _ (by omega) c6 O6;exact bodyPost_ret (v:=refV (1+p) (1+q) f g) (by simp [results,Tryz.results27,go_sem,k0,k1,k2,k3]) rfl ⟨_,_,_,_,_,rfl,by omega,by omega,by omega,fc,fo⟩
theorem Vec.made3 (w:World) (v0 v1 v2:Value) (t:TypeId):Vec (w.alloc (.cells #[v0,v1,v2] t)) w.heap.size [v0,v1,v2]:=by
 obtain ⟨⟨a0,a1,a2⟩,f0,f1,f2⟩:=Box3.made w v0 v1 v2 t;intro i v hi
 match i,hi with
 | 0,hi=>cases hi;exact ⟨a0,f0⟩
 | 1,hi=>cases hi;exact ⟨a1,f1⟩
 | 2,hi=>cases hi;exact ⟨a2,f2⟩
theorem oddC (b base K:Nat) (r c:Int) (rf cf:Bool) (w:World) (h:Cur w b base K) (hK:K<=1000000) :
  Calls Tryz.prog 26 #[.pointer (some ⟨b,0,none⟩),refV r c rf cf] w fun e w'=>∃ (r' c':Int) (rf' cf':Bool) (K':Nat),e=.returned (refV r' c' rf' cf')/\K'<=K+100/\Cur w' b base K'/\Only b w w':=by
 have bl:=h.lt;have bb:=h.base_le;have V3:=Vec.made4 w (iQ r) (iQ c) (.bool rf) (.bool cf) 26;have V4:=Vec.made4' w (.cells #[iQ r,iQ c,.bool rf,.bool cf] 26) (iQ 0) (iQ 0) (.bool false) (.bool false) 26;have X0:=xa (x1 w (.cells #[iQ r,iQ c,.bool rf,.bool cf] 26)) (.cells #[iQ 0,iQ 0,.bool false,.bool false] 26);have V3:=V3.l (x1 _ (.cells #[iQ 0,iQ 0,.bool false,.bool false] 26));have C0:=h.ext X0;have FIN:Hid (∀ (wf:World) (r' c':Int) (u v:Bool) (K':Nat),Cur wf b base K'->Only b w wf->Cur (set4 wf (w.heap.size+1) 0 (iQ r') (iQ c') (.bool u) (.bool v)) b base K'/\Only b w (set4 wf (w.heap.size+1) 0 (iQ r') (iQ c') (.bool u) (.bool v))):=fun wf r' c' u v K' hc ho =>
  ⟨(((hc.far (g:=w.heap.size+1) (by omega) (by omega) _).far (g:=w.heap.size+1) (by omega) (by omega) _).far (g:=w.heap.size+1) (by omega) (by omega) _).far (g:=w.heap.size+1) (by omega) (by omega) _,(((ho.setNew (g:=w.heap.size+1) (by omega) _).setNew (g:=w.heap.size+1) (by omega) _).setNew (g:=w.heap.size+1) (by omega) _).setNew (g:=w.heap.size+1) (by omega) _⟩
 go_enter Tryz.func26,Tryz.ntmps26;go_wp2_with fail;refine (zB1 b base _ 30 _ C0 (by omega) (by omega) (by omega)).mono ?_;rintro e w1 ⟨x,rfl,⟨x0,x9⟩,c1,o1⟩;have V3:=o1.vec (k:=w.heap.size) (by omega) V3;have V4:=o1.vec (k:=w.heap.size+1) (by omega) V4;have O1:=(Only.of_ext X0).trans o1;clear C0 X0 o1 h;by_cases h0:x=0
 ·subst h0;obtain ⟨w2,h2⟩:=nm (w1.alloc (.cells #[iQ (0),iQ (1001),iQ (-3)] 3));have xs:=x1 w1 (.cells #[iQ (0),iQ (1001),iQ (-3)] 3);have VSs:=Vec.made3 w1 (iQ (0)) (iQ (1001)) (iQ (-3)) 3;rw [h2] at xs VSs;have cs:=c1.ext xs;have Os:=O1.trans (Only.of_ext xs);have V3s:=V3.l xs;have V4s:=V4.l xs;have lb:=c1.lt;have lw:w.heap.size+1<w1.heap.size:=World.block_lt_of_cell? _ _ (V4 0 _ rfl).1;clear c1 O1 xs V3 V4;go_wp2_with fail;refine (zB1 b base _ 3 _ cs (by omega) (by omega) (by omega)).mono ?_;rintro e w7 ⟨u,rfl,⟨u0,u1⟩,c7,o7⟩;have V3:=o7.vec (k:=w.heap.size) (by omega) V3s;have V4:=o7.vec (k:=w.heap.size+1) (by omega) V4s;have VS:=o7.vec (k:=w1.heap.size) (by omega) VSs;have O7:=Os.trans o7;clear cs o7 Os V3s V4s VSs;obtain rfl | rfl | rfl:u=0\/u=1\/u=2:=by omega
  ·have s0:=(VS 0 _ rfl).1;obtain ⟨wa,ha⟩:=nm (w7.setCell ⟨w.heap.size,0,none⟩ (iQ (0)));obtain ⟨⟨m0,m1,m2,m3⟩,f0,f1,f2,f3⟩:=V3.box4;have V3:=V3.put 0 (by simp) (iQ (0));have V4:=V4.far (p:=⟨w.heap.size,0,none⟩) (by simp) (iQ (0));have ca:=c7.far (g:=w.heap.size) (i:=0) (by omega) (by omega) (iQ (0));have Oa:=O7.setNew (g:=w.heap.size) (i:=0) (by omega) (iQ (0));rw [ha] at V3 V4 ca Oa;simp only [List.set_cons_zero] at V3;obtain ⟨⟨a0,a1,a2,a3⟩,_⟩:=V3.box4;obtain ⟨⟨k0,k1,k2,k3⟩,g0,g1,g2,g3⟩:=V4.box4;clear VS;go_wp2_with fail;obtain ⟨fc,fo⟩:=FIN.out wa (0) c rf cf _ ca Oa;exact bodyPost_ret (v:=refV (0) c rf cf) (by simp [results,Tryz.results26,go_sem,k0,k1,k2,k3]) rfl ⟨_,_,_,_,_,rfl,by omega,fc,fo⟩
  ·have s1:=(VS 1 _ rfl).1;obtain ⟨wa,ha⟩:=nm (w7.setCell ⟨w.heap.size,0,none⟩ (iQ (1001)));obtain ⟨⟨m0,m1,m2,m3⟩,f0,f1,f2,f3⟩:=V3.box4;have V3:=V3.put 0 (by simp) (iQ (1001));have V4:=V4.far (p:=⟨w.heap.size,0,none⟩) (by simp) (iQ (1001));have ca:=c7.far (g:=w.heap.size) (i:=0) (by omega) (by omega) (iQ (1001));have Oa:=O7.setNew (g:=w.heap.size) (i:=0) (by omega) (iQ (1001));rw [ha] at V3 V4 ca Oa;simp only [List.set_cons_zero] at V3;obtain ⟨⟨a0,a1,a2,a3⟩,_⟩:=V3.box4;obtain ⟨⟨k0,k1,k2,k3⟩,g0,g1,g2,g3⟩:=V4.box4;clear VS;go_wp2_with fail;obtain ⟨fc,fo⟩:=FIN.out wa (1001) c rf cf _ ca Oa;exact bodyPost_ret (v:=refV (1001) c rf cf) (by simp [results,Tryz.results26,go_sem,k0,k1,k2,k3]) rfl ⟨_,_,_,_,_,rfl,by omega,fc,fo⟩
  ·have s2:=(VS 2 _ rfl).1;obtain ⟨wa,ha⟩:=nm (w7.setCell ⟨w.heap.size,0,none⟩ (iQ (-3)));obtain ⟨⟨m0,m1,m2,m3⟩,f0,f1,f2,f3⟩:=V3.box4;have V3:=V3.put 0 (by simp) (iQ (-3));have V4:=V4.far (p:=⟨w.heap.size,0,none⟩) (by simp) (iQ (-3));have ca:=c7.far (g:=w.heap.size) (i:=0) (by omega) (by omega) (iQ (-3));have Oa:=O7.setNew (g:=w.heap.size) (i:=0) (by omega) (iQ (-3));rw [ha] at V3 V4 ca Oa;simp only [List.set_cons_zero] at V3;obtain ⟨⟨a0,a1,a2,a3⟩,_⟩:=V3.box4;obtain ⟨⟨k0,k1,k2,k3⟩,g0,g1,g2,g3⟩:=V4.box4;clear VS;go_wp2_with fail;obtain ⟨fc,fo⟩:=FIN.out wa (-3) c rf cf _ ca Oa;exact bodyPost_ret (v:=refV (-3) c rf cf) (by simp [results,Tryz.results26,go_sem,k0,k1,k2,k3]) rfl ⟨_,_,_,_,_,rfl,by omega,fc,fo⟩
 ·have g0:(x == 0)=false:=by simpa using h0
  by_cases h1:x=1
  ·subst h1;obtain ⟨w2,h2⟩:=nm (w1.alloc (.cells #[iQ (0),iQ (201),iQ (-1)] 3));have xs:=x1 w1 (.cells #[iQ (0),iQ (201),iQ (-1)] 3);have VSs:=Vec.made3 w1 (iQ (0)) (iQ (201)) (iQ (-1)) 3;rw [h2] at xs VSs;have cs:=c1.ext xs;have Os:=O1.trans (Only.of_ext xs);have V3s:=V3.l xs;have V4s:=V4.l xs;have lb:=c1.lt;have lw:w.heap.size+1<w1.heap.size:=World.block_lt_of_cell? _ _ (V4 0 _ rfl).1;clear c1 O1 xs V3 V4;go_wp2_with fail;refine (zB1 b base _ 3 _ cs (by omega) (by omega) (by omega)).mono ?_;rintro e w7 ⟨u,rfl,⟨u0,u1⟩,c7,o7⟩;have V3:=o7.vec (k:=w.heap.size) (by omega) V3s;have V4:=o7.vec (k:=w.heap.size+1) (by omega) V4s;have VS:=o7.vec (k:=w1.heap.size) (by omega) VSs;have O7:=Os.trans o7;clear cs o7 Os V3s V4s VSs;obtain rfl | rfl | rfl:u=0\/u=1\/u=2:=by omega
   ·have s0:=(VS 0 _ rfl).1;obtain ⟨wa,ha⟩:=nm (w7.setCell ⟨w.heap.size,1,none⟩ (iQ (0)));obtain ⟨⟨m0,m1,m2,m3⟩,f0,f1,f2,f3⟩:=V3.box4;have V3:=V3.put 1 (by simp) (iQ (0));have V4:=V4.far (p:=⟨w.heap.size,1,none⟩) (by simp) (iQ (0));have ca:=c7.far (g:=w.heap.size) (i:=1) (by omega) (by omega) (iQ (0));have Oa:=O7.setNew (g:=w.heap.size) (i:=1) (by omega) (iQ (0));rw [ha] at V3 V4 ca Oa;simp only [List.set_cons_zero,List.set_cons_succ] at V3;obtain ⟨⟨a0,a1,a2,a3⟩,_⟩:=V3.box4;obtain ⟨⟨k0,k1,k2,k3⟩,g0,g1,g2,g3⟩:=V4.box4;clear VS;go_wp2_with fail;obtain ⟨fc,fo⟩:=FIN.out wa r (0) rf cf _ ca Oa;exact bodyPost_ret (v:=refV r (0) rf cf) (by simp [results,Tryz.results26,go_sem,k0,k1,k2,k3]) rfl ⟨_,_,_,_,_,rfl,by omega,fc,fo⟩
   ·have s1:=(VS 1 _ rfl).1;obtain ⟨wa,ha⟩:=nm (w7.setCell ⟨w.heap.size,1,none⟩ (iQ (201)));obtain ⟨⟨m0,m1,m2,m3⟩,f0,f1,f2,f3⟩:=V3.box4;have V3:=V3.put 1 (by simp) (iQ (201));have V4:=V4.far (p:=⟨w.heap.size,1,none⟩) (by simp) (iQ (201));have ca:=c7.far (g:=w.heap.size) (i:=1) (by omega) (by omega) (iQ (201));have Oa:=O7.setNew (g:=w.heap.size) (i:=1) (by omega) (iQ (201));rw [ha] at V3 V4 ca Oa;simp only [List.set_cons_zero,List.set_cons_succ] at V3;obtain ⟨⟨a0,a1,a2,a3⟩,_⟩:=V3.box4;obtain ⟨⟨k0,k1,k2,k3⟩,g0,g1,g2,g3⟩:=V4.box4;clear VS;go_wp2_with fail;obtain ⟨fc,fo⟩:=FIN.out wa r (201) rf cf _ ca Oa;exact bodyPost_ret (v:=refV r (201) rf cf) (by simp [results,Tryz.results26,go_sem,k0,k1,k2,k3]) rfl ⟨_,_,_,_,_,rfl,by omega,fc,fo⟩
   ·have s2:=(VS 2 _ rfl).1;obtain ⟨wa,ha⟩:=nm (w7.setCell ⟨w.heap.size,1,none⟩ (iQ (-1)));obtain ⟨⟨m0,m1,m2,m3⟩,f0,f1,f2,f3⟩:=V3.box4;have V3:=V3.put 1 (by simp) (iQ (-1));have V4:=V4.far (p:=⟨w.heap.size,1,none⟩) (by simp) (iQ (-1));have ca:=c7.far (g:=w.heap.size) (i:=1) (by omega) (by omega) (iQ (-1));have Oa:=O7.setNew (g:=w.heap.size) (i:=1) (by omega) (iQ (-1));rw [ha] at V3 V4 ca Oa;simp only [List.set_cons_zero,List.set_cons_succ] at V3;obtain ⟨⟨a0,a1,a2,a3⟩,_⟩:=V3.box4;obtain ⟨⟨k0,k1,k2,k3⟩,g0,g1,g2,g3⟩:=V4.box4;clear VS;go_wp2_with fail;obtain ⟨fc,fo⟩:=FIN.out wa r (-1) rf cf _ ca Oa;exact bodyPost_ret (v:=refV r (-1) rf cf) (by simp [results,Tryz.results26,go_sem,k0,k1,k2,k3]) rfl ⟨_,_,_,_,_,rfl,by omega,fc,fo⟩
  ·have g1:(x == 1)=false:=by simpa using h1
   obtain ⟨⟨a0,a1,a2,a3⟩,_⟩:=V3.box4;obtain ⟨⟨k0,k1,k2,k3⟩,e0,e1,e2,e3⟩:=V4.box4;go_wp2_with fail;obtain ⟨fc,fo⟩:=FIN.out w1 r c rf cf _ c1 O1;exact bodyPost_ret (v:=refV r c rf cf) (by simp [results,Tryz.results26,go_sem,k0,k1,k2,k3]) rfl ⟨_,_,_,_,_,rfl,by omega,fc,fo⟩
theorem Cur.far8 {w:World} {b base K g:Nat} (h:Cur w b base K) (hb:b ≠ g) (hg:base<=g) (u0 u1 u2 u3 u4 u5 u6 u7:Value):Cur (set8 w g u0 u1 u2 u3 u4 u5 u6 u7) b base K:=
 (((((((h.far hb hg u0).far hb hg u1).far hb hg u2).far hb hg u3).far hb hg u4).far hb hg u5).far hb hg u6).far hb hg u7
theorem Only.set8 {b g:Nat} {w w':World} (h:Only b w w') (hg:w.heap.size<=g) (u0 u1 u2 u3 u4 u5 u6 u7:Value):Only b w (set8 w' g u0 u1 u2 u3 u4 u5 u6 u7):=
 (((((((h.setNew hg u0).setNew hg u1).setNew hg u2).setNew hg u3).setNew hg u4).setNew hg u5).setNew hg u6).setNew hg u7
theorem areaC (b base K:Nat) (w:World) (h:Cur w b base K) (hK:K<=100000) :
  Calls Tryz.prog 71 #[.pointer (some ⟨b,0,none⟩)] w fun e w'=>∃ (r c:Int) (rf cf:Bool) (r' c':Int) (rf' cf':Bool) (K':Nat),e=.returned (arV r c rf cf r' c' rf' cf')/\K'<=K+400/\Cur w' b base K'/\Only b w w':=by
 have bl:=h.lt;have bb:=h.base_le;have X0:=x1 w (.cells #[iQ 0,iQ 0,.bool false,.bool false,iQ 0,iQ 0,.bool false,.bool false] 43);have V2:=Vec.made8 w (iQ 0) (iQ 0) (.bool false) (.bool false) (iQ 0) (iQ 0) (.bool false) (.bool false) 43;have C0:=h.ext X0;go_enter Tryz.func71,Tryz.ntmps71;go_wp2_with fail;refine (refC b base _ _ C0 (by omega)).mono ?_;rintro e w1 ⟨r1,c1,f1,g1,K1,rfl,_,_,hK1,C1,o1⟩;have V2:=o1.vec (by omega) V2;have O:=(Only.of_ext X0).trans o1;clear C0 o1 X0;go_wp2_with fail;refine (oddC b base _ r1 c1 f1 g1 _ C1 (by omega)).mono ?_;rintro e w2 ⟨r,c,rf,cf,K2,rfl,hK2,C2,o2⟩;have V2:=o2.vec (by omega) V2;have O:=O.trans o2;clear C1 o2;go_wp2_with fail;refine (refC b base _ _ C2 (by omega)).mono ?_;rintro e w3 ⟨r3,c3,f3,g3,K3,rfl,_,_,hK3,C3,o3⟩;have V2:=o3.vec (by omega) V2;have O:=O.trans o3;clear C2 o3;go_wp2_with fail;refine (oddC b base _ r3 c3 f3 g3 _ C3 (by omega)).mono ?_;rintro e w4 ⟨r',c',rf',cf',K4,rfl,hK4,C4,o4⟩;have V2:=o4.vec (by omega) V2;have O:=O.trans o4;clear C3 o4;have e5:=x1 w4 (.cells #[iQ r,iQ c,.bool rf,.bool cf,iQ r',iQ c',.bool rf',.bool cf'] 43);have V3:=Vec.made8 w4 (iQ r) (iQ c) (.bool rf) (.bool cf) (iQ r') (iQ c') (.bool rf') (.bool cf') 43;have V2:=V2.l e5;have C5:=C4.ext e5;have O:=O.trans (Only.of_ext e5);clear e5 C4;obtain ⟨w5,h5⟩:=nm (w4.alloc (.cells #[iQ r,iQ c,.bool rf,.bool cf,iQ r',iQ c',.bool rf',.bool cf'] 43));rw [h5] at V2 V3 C5 O;have V6:=V2.put8 (iQ r) (iQ c) (.bool rf) (.bool cf) (iQ r') (iQ c') (.bool rf') (.bool cf');have C6:=C5.far8 (g:=w.heap.size) (by omega) (by omega) (iQ r) (iQ c) (.bool rf) (.bool cf) (iQ r') (iQ c') (.bool rf') (.bool cf');have O6:=O.set8 (g:=w.heap.size) (Nat.le_refl _) (iQ r) (iQ c) (.bool rf) (.bool cf) (iQ r') (iQ c') (.bool rf') (.bool cf');obtain ⟨w6,h6⟩:=nm (set8 w5 w.heap.size (iQ r) (iQ c) (.bool rf) (.bool cf) (iQ r') (iQ c') (.bool rf') (.bool cf'));rw [h6] at V6 C6 O6;unfold set8 set4 at h6;obtain ⟨⟨⟨k0,k1,k2,k3⟩,k4,k5,k6,k7⟩,⟨f0,f1',f2,f3'⟩,f4,f5,f6,f7⟩:=V2.box8;obtain ⟨⟨⟨a0,a1,a2,a3⟩,a4,a5,a6,a7⟩,_⟩:=V3.box8;obtain ⟨⟨⟨d0,d1,d2,d3⟩,d4,d5,d6,d7⟩,_⟩:=V6.box8;clear C5 O V2 V3;go_wp2_with fail;exact bodyPost_ret (v:=arV r c rf cf r' c' rf' cf') (by simp [results,Tryz.results71,go_sem,d0,d1,d2,d3,d4,d5,d6,d7]) rfl ⟨r,c,rf,cf,r',c',rf',cf',K4,rfl,by omega,C6,O6⟩
theorem Ext.setCells {a:World} {b:Nat} (hb:a.heap.size<=b):∀ (vs:List Value) (o:Nat) (w:World),Ext a w->Ext a (w.setCells b o vs)
 | [],_,_,h=>h
 | v :: vs,o,_,h=>Ext.setCells hb vs (o+1) _ (xset (p:=⟨b,o,none⟩) h hb v)
def zLK (M:List Value):Nat->List Value->List Value
 | _,[]=>M
 | o,u :: us=>zLK (M.set o u) (o+1) us
theorem zA9 {g:Nat}:∀ (us:List Value) (o:Nat) (w:World) (M:List Value),Vec w g M->o+us.length<=M.length->Vec (w.setCells g o us) g (zLK M o us)
 | [],_,_,_,V,_=>V
 | u :: us,o,w,M,V,h=>by
  rw [List.length_cons] at h;exact zA9 us (o+1) _ (M.set o u) (V.put o (by omega) u) (by rw [List.length_set];omega)
theorem zAE {w:World} {g o k:Nat} {M:List Value} (V:Vec w g M) (h:o+k<=M.length):w.there g o k:=fun j hj=>by
 obtain ⟨u,hu⟩:∃ u,M[o+j]?=some u:=⟨_,List.getElem?_eq_getElem (by omega)⟩;exact ⟨by rw [(V _ u hu).1];rfl,(V _ u hu).2⟩
theorem zA8 (g:Nat):∀ (us:List Value) (o:Nat) (w:World),w.grownBy (w.setCells g o us) (some g)
 | [],_,w=>⟨rfl,rfl,rfl,Nat.le_refl _,fun _ _ _=>rfl⟩
 | u :: us,o,w=>by
  have ih:=zA8 g us (o+1) (w.setCell ⟨g,o,none⟩ u);refine ⟨ih.os,ih.tape,ih.output,?_,fun k hk hne=>?_⟩
  ·have:=ih.size;rw [World.size_setCell] at this;exact this
  ·exact (ih.block k (by rw [World.size_setCell];exact hk) hne).trans (Below.heap_setCell _ _ _ _ (fun e=>hne (by rw [e])))
theorem Vec.three {w:World} {b:Nat} {v0 v1 v2:Value} (h:Vec w b [v0,v1,v2]):w.cell? ⟨b,0,none⟩=some v0/\w.cell? ⟨b,1,none⟩=some v1/\w.cell? ⟨b,2,none⟩=some v2:=
 ⟨(h 0 _ rfl).1,(h 1 _ rfl).1,(h 2 _ rfl).1⟩
theorem Vec.threeF {w:World} {b:Nat} {v0 v1 v2:Value} (h:Vec w b [v0,v1,v2]):w.frozen? ⟨b,0,none⟩=false/\w.frozen? ⟨b,1,none⟩=false/\w.frozen? ⟨b,2,none⟩=false:=
 ⟨(h 0 _ rfl).2,(h 1 _ rfl).2,(h 2 _ rfl).2⟩
theorem Vec.four {w:World} {b:Nat} {v0 v1 v2 v3:Value} (h:Vec w b [v0,v1,v2,v3]):w.cell? ⟨b,0,none⟩=some v0/\w.cell? ⟨b,1,none⟩=some v1/\w.cell? ⟨b,2,none⟩=some v2/\w.cell? ⟨b,3,none⟩=some v3:=
 ⟨(h 0 _ rfl).1,(h 1 _ rfl).1,(h 2 _ rfl).1,(h 3 _ rfl).1⟩
theorem Vec.fourF {w:World} {b:Nat} {v0 v1 v2 v3:Value} (h:Vec w b [v0,v1,v2,v3]):w.frozen? ⟨b,0,none⟩=false/\w.frozen? ⟨b,1,none⟩=false/\w.frozen? ⟨b,2,none⟩=false/\w.frozen? ⟨b,3,none⟩=false:=
 ⟨(h 0 _ rfl).2,(h 1 _ rfl).2,(h 2 _ rfl).2,(h 3 _ rfl).2⟩
theorem Cur.baseC {w:World} {b base K:Nat} (h:Cur w b base K):base<=b:=by obtain ⟨_,_,_,_,_,_,_,_,_,_,_,hb⟩:=h;exact hb
theorem Only.vecC {b k:Nat} {w w':World} {l:List Value} (h:Only b w w') (hk:k ≠ b) (v:Vec w k l):Vec w' k l:=fun i x hi=>by
 obtain ⟨hc,hf⟩:=v i x hi;refine ⟨h.cell hk hc,?_⟩;have hlt:=World.block_lt_of_cell? _ _ hc;rw [<- hf];exact World.frozen?_of_block (h.block k hk hlt)
theorem zJU {a w:World} {b base K g:Nat} (V:Vec w g [.bool false,iQ 0,iQ 0]) (C:Cur w b base K) (O:Only b a w) (hg:a.heap.size<=g) (hb:b ≠ g) (hbase:base<=g) (n:Bool) (d x:Int) :
  ∃ wy,((w.setCell ⟨g,0,none⟩ (.bool n)).setCell ⟨g,1,none⟩ (iQ d)).setCell ⟨g,2,none⟩ (iQ x)=wy/\Only b a wy/\Cur wy b base K/\(w.cell? ⟨g,0,none⟩=some (.bool false)/\w.cell? ⟨g,1,none⟩=some (iQ 0)/\w.cell? ⟨g,2,none⟩=some (iQ 0))/\(w.frozen? ⟨g,0,none⟩=false/\w.frozen? ⟨g,1,none⟩=false/\w.frozen? ⟨g,2,none⟩=false)/\wy.cell? ⟨g,0,none⟩=some (.bool n)/\wy.cell? ⟨g,1,none⟩=some (iQ d)/\wy.cell? ⟨g,2,none⟩=some (iQ x):=
 ⟨_,rfl,((O.setNew hg _).setNew hg _).setNew hg _,((C.far hb hbase _).far hb hbase _).far hb hbase _,V.three,V.threeF,Vec.three (((V.put 0 (by simp) (.bool n)).put 1 (by simp) (iQ d)).put 2 (by simp) (iQ x))⟩
end Go.Proofs.YteliaeejooekbaaGreatDoor
