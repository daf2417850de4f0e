/-
  Several texts in one: Rpd, Rb.
-/
import Derived.Test.YtogecaajnjcenaaGreatDoorMg35
import Derived.Test.YtogecaajnjcenaaGreatDoorSheld
import Derived.WalkSmall
import Derived.Lib.LaidTab
import Derived.Test.YtogecaajnjcenaaGreatDoorRt
import Derived.Test.YtogecaajnjcenaaGreatDoorMg11
import Derived.Deep.DeepCutAuto
namespace Go.Proofs.YtogecaajnjcenaaGreatDoor
open Go.RowKit
theorem shelfExtra:Builder.Extra Tryz.prog layRepeat_ren:={
 sizeBuilder:=by kernel_rfl
 liesBuilder:=by kernel_rfl
 t5:=layRepeat.t5
 a5:=layRepeat.a5
 z5:=layRepeat.z5
 v5:=layRepeat.v5
 infoByte:=by kernel_rfl
 cellsByte:=by kernel_rfl
 sizeByte:=by kernel_rfl
 neB5:=by decide }
theorem fRepeat:layRepeat_ren.f 105=115:=by kernel_rfl
theorem repC:RepC:=by
 intro c w h0 h1;obtain ⟨n,rfl⟩:∃ n:Nat,c=(n:Int):=⟨c.toNat,by omega⟩;have h:=Any.strings_Repeat layRepeat shelfExtra ⟨#[48]⟩ n w (by omega) (by show 1 * n≤_;omega);rw [fRepeat] at h;refine h.mono fun e w' ⟨he,hw⟩=>⟨_,he,?_,hw⟩;have e:=Lib.repeatL_replicate 48 1 n;simp only [Nat.mul_one] at e;show Lib.repeatL [48] n=List.replicate ((n:Int)).toNat 48;rw [Int.toNat_natCast,← e];rfl
def farL (a h:Int) (fix:Bool):List UInt8:=if fix then intT a else if a=h then [] else [91]++intT (a - h)++[93]
def byL (r c:Int) (rf cf:Bool) (row col:Int):List UInt8:=[82]++farL r row rf++[67]++farL c col cf
def byT (r c:Int) (rf cf:Bool) (row col:Int):List UInt8:=if GoodR r c∧GoodR row col then byL r c rf cf row col else []
theorem farL_len {a h:Int} (a0:1≤a) (a1:a≤1000) (h0:1≤h) (h1:h≤1000) (fix:Bool):(farL a h fix).length≤7:=by
 unfold farL
 split
 ·have:=intT_len (n:=a) (by omega) (by omega);omega
 ·split
  ·simp
  ·have:=intT_len (n:=a - h) (by omega) (by omega);simp;omega
set_option maxRecDepth 8000 in
set_option maxHeartbeats 1000000 in
theorem farTextI (a h:Int) (fix:Bool) (w:World) {w0:World} (IT:ItoaC w0) (X0:Ext w0 w) (a0:1≤a) (a1:a≤1000) (h0:1≤h) (h1:h≤1000) :
  Calls Tryz.prog 211 #[.int .i64 a,.int .i64 h,.bool fix] w fun e w'=>e=.returned (.string (bs (farL a h fix)))∧Ext w w':=by
 cases fix
 ·by_cases he:a=h
  ·have HR:Hid (farL a h false=[]):=by show _=_;unfold farL;simp [he]
   subst he;go_enter Tryz.func211,Tryz.ntmps211;go_wp2_with fail;go_ret;exact ⟨ret_str (by rw [HR.out];rfl),xr _⟩
  ·have HR:Hid (farL a h false=[91]++intT (a - h)++[93]):=by show _=_;unfold farL;simp [he]
   have II:=itoI IT (a - h) w (by omega) (by omega) X0;obtain ⟨k4,z4⟩:∃ k,(bs (intT (a - h))).size=k:=⟨_,rfl⟩;have l4:k4≤5:=by rw [← z4,bs_size];exact intT_len (by omega) (by omega)
   have f1:(a == h)=false:=by simpa using he
   clear he;go_enter Tryz.func211,Tryz.ntmps211;go_wp2_with fail;refine II.mono ?_;rintro e w1 ⟨rfl,e1⟩;clear II;go_wp2_with fail;go_ret;exact ⟨ret_str (by rw [HR.out,← bs_app,← bs_app];rfl),e1⟩
 ·have HR:Hid (farL a h true=intT a):=by show _=_;unfold farL;simp
  have II:=itoI IT a w (by omega) (by omega) X0;go_enter Tryz.func211,Tryz.ntmps211;go_wp2_with fail;refine II.mono ?_;rintro e w1 ⟨rfl,e1⟩;go_wp2_with fail;go_ret;exact ⟨ret_str (by rw [HR.out]),e1⟩
set_option maxRecDepth 8000 in
set_option maxHeartbeats 1000000 in
theorem byS (b:UInt8) (a h:Int) (fix:Bool) (w:World) (a0:1≤a) (a1:a≤1000) (h0:1≤h) (h1:h≤1000) :
  Calls Tryz.prog 69 #[.string ⟨#[b]⟩,.int .i64 a,.int .i64 h,.bool fix] w fun e w'=>e=.returned (.string (bs ([b]++farL a h fix)))∧Ext w w':=by
 obtain ⟨t,ht⟩:∃ t:ByteArray,(⟨#[b]⟩:ByteArray)=t:=⟨_,rfl⟩;have zt:t.size=1:=by rw [← ht];rfl
 have HB:Hid (t=bs [b]):=by show _=_;rw [← ht];rfl
 rw [ht];clear ht;cases fix
 ·by_cases he:a=h
  ·have HR:Hid (farL a h false=[]):=by show _=_;unfold farL;simp [he]
   subst he;go_enter Tryz.func69,Tryz.ntmps69;go_wp2_with fail;go_ret;exact ⟨ret_str (by rw [HR.out,HB.out]),xr _⟩
  ·have f1:(a == h)=false:=by simpa using he
   by_cases hlt:a - h<0
   ·have HR:Hid (farL a h false=[91,45]++intT (-(a - h))++[93]):=by
     show _=_;unfold farL;simp only [he,if_false,Bool.false_eq_true];rw [intT,if_pos hlt,intT,if_neg (by omega),show (a - h).natAbs=(-(a - h)).toNat by omega];rfl
    have II:=fun w=>numI (-(a - h)) w (by omega) (by omega);obtain ⟨k4,z4⟩:∃ k,(bs (intT (-(a - h)))).size=k:=⟨_,rfl⟩;have l4:k4≤5:=(by rw [← z4,bs_size];exact intT_len (by omega) (by omega));clear he;obtain ⟨x,hx⟩:∃ x,a - h=x:=⟨_,rfl⟩;rw [hx] at II z4 HR hlt;have hw:wrap64 (-x) = -x:=(by unfold wrap64;omega);have hx':wrap64 (a - h)=x:=(by rw [hx];unfold wrap64;omega);go_enter Tryz.func69,Tryz.ntmps69;go_wp2_with fail;refine (II _).mono ?_;rintro e w1 ⟨rfl,e1⟩;clear II;go_wp2_with fail;go_ret;exact ⟨ret_str (by rw [HR.out];refine bs_of ?_;rw [HB.out];simp [bs_list]),e1⟩
   ·have HR:Hid (farL a h false=[91]++intT (a - h)++[93]):=(by show _=_;unfold farL;simp [he]);have II:=fun w=>numI (a - h) w (by omega) (by omega);obtain ⟨k4,z4⟩:∃ k,(bs (intT (a - h))).size=k:=⟨_,rfl⟩;have l4:k4≤5:=(by rw [← z4,bs_size];exact intT_len (by omega) (by omega));clear he;obtain ⟨x,hx⟩:∃ x,a - h=x:=⟨_,rfl⟩;rw [hx] at II z4 HR hlt;have hx':wrap64 (a - h)=x:=(by rw [hx];unfold wrap64;omega);go_enter Tryz.func69,Tryz.ntmps69;go_wp2_with fail;refine (II _).mono ?_;rintro e w1 ⟨rfl,e1⟩;clear II;go_wp2_with fail;go_ret;exact ⟨ret_str (by rw [HR.out];refine bs_of ?_;rw [HB.out];simp [bs_list]),e1⟩
 ·have HR:Hid (farL a h true=intT a):=by show _=_;unfold farL;simp
  have II:=fun w=>numI a w (by omega) (by omega);obtain ⟨k4,z4⟩:∃ k,(bs (intT a)).size=k:=⟨_,rfl⟩;have l4:k4≤5:=by rw [← z4,bs_size];exact intT_len (by omega) (by omega)
  go_enter Tryz.func69,Tryz.ntmps69;go_wp2_with fail;refine (II _).mono ?_;rintro e w1 ⟨rfl,e1⟩;go_wp2_with fail;go_ret;exact ⟨ret_str (by rw [HR.out];refine bs_of ?_;rw [HB.out];simp [bs_list]),e1⟩
abbrev seenV (r c:Int) (rf cf:Bool) (row col:Int):Value:=arV r c rf cf row col false false
set_option maxRecDepth 8000 in
set_option maxHeartbeats 1000000 in
theorem seenFromI (row col r c:Int) (rf cf:Bool) (w:World) :
  Calls Tryz.prog 208 #[.int .i64 row,.int .i64 col,refV r c rf cf] w fun e w'=>e=.returned (seenV r c rf cf row col)∧Ext w w':=by
 go_enter Tryz.func208,Tryz.ntmps208
 go_wp2
 exact bodyPost_ret (v:=seenV r c rf cf row col) (by simp [results,Tryz.results208,go_sem]) rfl ⟨rfl,xa (x1 _ _) _⟩
set_option maxRecDepth 8000 in
set_option maxHeartbeats 1000000 in
theorem seenGoodI (r c:Int) (rf cf:Bool) (row col:Int) (w:World) :
  Calls Tryz.prog 209 #[seenV r c rf cf row col] w fun e w'=>e=.returned (.bool (goodRB r c && goodRB row col))∧Ext w w':=by
 have G1:=fun w=>goodRI r c rf cf w;have G2:=fun w=>goodRI row col false false w;have B1:=Vec.made8 w (.int .i64 r) (.int .i64 c) (.bool rf) (.bool cf) (.int .i64 row) (.int .i64 col) (.bool false) (.bool false) 246;have X:=x1 w (.cells #[.int .i64 r,.int .i64 c,.bool rf,.bool cf,.int .i64 row,.int .i64 col,.bool false,.bool false] 246);obtain ⟨p,hp⟩:∃ p,goodRB r c=p:=⟨_,rfl⟩;obtain ⟨q,hq⟩:∃ q,goodRB row col=q:=⟨_,rfl⟩;rw [hp] at G1 ⊢;rw [hq] at G2 ⊢;clear hp hq;go_enter Tryz.func209,Tryz.ntmps209;go_wp2_with fail;refine (G1 _).mono ?_;rintro e w1 ⟨rfl,e1⟩;obtain ⟨⟨⟨a0,a1,a2,a3⟩,a4,a5,a6,a7⟩,_⟩:=(B1.later e1).box8;cases p
 ·go_wp2_with fail;go_ret;exact ⟨rfl,xt X e1⟩
 ·go_wp2_with fail;refine (G2 _).mono ?_;rintro e w2 ⟨rfl,e2⟩;go_wp2_with fail;go_ret;exact ⟨rfl,xt (xt X e1) e2⟩
set_option maxRecDepth 8000 in
set_option maxHeartbeats 1000000 in
theorem seenTextI (r c:Int) (rf cf:Bool) (row col:Int) (w:World) {w0:World} (IT:ItoaC w0) (X0:Ext w0 w) (hg:GoodR r c) (hh:GoodR row col) :
  Calls Tryz.prog 210 #[seenV r c rf cf row col] w fun e w'=>e=.returned (.string (bs (byL r c rf cf row col)))∧Ext w w':=by
 obtain ⟨⟨r0,r1⟩,c0,c1⟩:=hg;obtain ⟨⟨t0,t1⟩,d0,d1⟩:=hh;have B1:=Vec.made8 w (.int .i64 r) (.int .i64 c) (.bool rf) (.bool cf) (.int .i64 row) (.int .i64 col) (.bool false) (.bool false) 246;have X:=x1 w (.cells #[.int .i64 r,.int .i64 c,.bool rf,.bool cf,.int .i64 row,.int .i64 col,.bool false,.bool false] 246);obtain ⟨wa,ha⟩:∃ wa,w.alloc (.cells #[.int .i64 r,.int .i64 c,.bool rf,.bool cf,.int .i64 row,.int .i64 col,.bool false,.bool false] 246)=wa:=⟨_,rfl⟩;rw [ha] at B1 X;have F1:∀ w',Ext w0 w'→Calls Tryz.prog 211 #[.int .i64 r,.int .i64 row,.bool rf] w' fun e w''=>e=.returned (.string (bs (farL r row rf)))∧Ext w' w'':=fun w' x=>farTextI r row rf w' IT x r0 r1 t0 t1;have F2:∀ w',Ext w0 w'→Calls Tryz.prog 211 #[.int .i64 c,.int .i64 col,.bool cf] w' fun e w''=>e=.returned (.string (bs (farL c col cf)))∧Ext w' w'':=fun w' x=>farTextI c col cf w' IT x c0 (by omega) d0 (by omega);obtain ⟨k1,z1⟩:∃ k,(bs (farL r row rf)).size=k:=⟨_,rfl⟩;obtain ⟨k2,z2⟩:∃ k,(bs (farL c col cf)).size=k:=⟨_,rfl⟩;have l1:k1≤7:=by rw [← z1,bs_size];exact farL_len r0 r1 t0 t1 _
 have l2:k2≤7:=by rw [← z2,bs_size];exact farL_len c0 (by omega) d0 (by omega) _
 have HR:Hid (bs (byL r c rf cf row col)=⟨#[82]⟩++bs (farL r row rf)++⟨#[67]⟩++bs (farL c col cf)):=by
  show _=_;refine (bs_of ?_).symm;simp [bs_list,byL]
 have q1:(9223372036854775807<1+k1)=False:=eq_false (by omega);have q2:(9223372036854775807<1+k1+1)=False:=eq_false (by omega);have q3:(9223372036854775807<1+k1+1+k2)=False:=eq_false (by omega);have Y:=xr wa;have X0a:=xt X0 X;obtain ⟨⟨⟨a0,a1,a2,a3⟩,a4,a5,a6,a7⟩,_⟩:=B1.box8;clear r0 r1 c0 c1 t0 t1 d0 d1;go_enter Tryz.func210,Tryz.ntmps210;go_wp2_with fail;clear ha;go_region_held3 (fun w'=>(w'.cell? ⟨w.heap.size,0,none⟩=some (.int .i64 r)∧w'.cell? ⟨w.heap.size,1,none⟩=some (.int .i64 c)∧w'.cell? ⟨w.heap.size,2,none⟩=some (.bool rf)∧w'.cell? ⟨w.heap.size,3,none⟩=some (.bool cf))∧w'.cell? ⟨w.heap.size,4,none⟩=some (.int .i64 row)∧w'.cell? ⟨w.heap.size,5,none⟩=some (.int .i64 col)) (go_keep) (first
  | (go_at_call_of 211 (Value.int IntKind.i64 r);refine (F1 _ (by first | exact xt X0a Y | exact xt X0a (xd Y))).mono ?_;rintro e w3 ⟨rfl,e3⟩;have Y:Ext wa w3:=(by first | exact xt Y e3 | exact xt (xd Y) e3);obtain ⟨⟨⟨a0,a1,a2,a3⟩,a4,a5,a6,a7⟩,_⟩:=(B1.later Y).box8)
  | (go_at_call_of 211 (Value.int IntKind.i64 c);refine (F2 _ (by first | exact xt X0a Y | exact xt X0a (xd Y))).mono ?_;rintro e w3 ⟨rfl,e3⟩;have Y:Ext wa w3:=(by first | exact xt Y e3 | exact xt (xd Y) e3);obtain ⟨⟨⟨a0,a1,a2,a3⟩,a4,a5,a6,a7⟩,_⟩:=(B1.later Y).box8))
 all_goals go_wp2_with fail
 all_goals go_ret
 all_goals exact ⟨ret_str HR.out.symm,xt X Y⟩
end Go.Proofs.YtogecaajnjcenaaGreatDoor

