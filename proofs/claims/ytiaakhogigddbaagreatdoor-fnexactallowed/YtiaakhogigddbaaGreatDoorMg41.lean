/-
  Several texts in one: V9t, V9u, V9r.
-/
import Derived.Test.YtiaakhogigddbaaGreatDoorMg40
import Derived.Test.YtiaakhogigddbaaGreatDoorMg27
import Derived.Test.YtiaakhogigddbaaGreatDoorMg11
namespace Go.Proofs.YtiaakhogigddbaaGreatDoor
open Go.RowKit
theorem level_0 (w:World):Calls Tryz.prog 63 #[sV [43]] w fun e w'=>e=.returned (.int .i64 3)∧w'=w:=by
 go_enter Tryz.func63,Tryz.ntmps63;go_wp2_with fail;go_ret;exact ⟨rfl,rfl⟩
theorem level_1 (w:World):Calls Tryz.prog 63 #[sV [45]] w fun e w'=>e=.returned (.int .i64 3)∧w'=w:=by
 go_enter Tryz.func63,Tryz.ntmps63;go_wp2_with fail;go_ret;exact ⟨rfl,rfl⟩
theorem level_2 (w:World):Calls Tryz.prog 63 #[sV [42]] w fun e w'=>e=.returned (.int .i64 4)∧w'=w:=by
 go_enter Tryz.func63,Tryz.ntmps63;go_wp2_with fail;go_ret;exact ⟨rfl,rfl⟩
theorem level_3 (w:World):Calls Tryz.prog 63 #[sV [47]] w fun e w'=>e=.returned (.int .i64 4)∧w'=w:=by
 go_enter Tryz.func63,Tryz.ntmps63;go_wp2_with fail;go_ret;exact ⟨rfl,rfl⟩
theorem level_4 (w:World):Calls Tryz.prog 63 #[sV [94]] w fun e w'=>e=.returned (.int .i64 5)∧w'=w:=by
 go_enter Tryz.func63,Tryz.ntmps63;go_wp2_with fail;go_ret;exact ⟨rfl,rfl⟩
theorem level_6 (w:World):Calls Tryz.prog 63 #[sV [61]] w fun e w'=>e=.returned (.int .i64 1)∧w'=w:=by
 go_enter Tryz.func63,Tryz.ntmps63;go_wp2_with fail;go_ret;exact ⟨rfl,rfl⟩
theorem level_7 (w:World):Calls Tryz.prog 63 #[sV [60,62]] w fun e w'=>e=.returned (.int .i64 1)∧w'=w:=by
 go_enter Tryz.func63,Tryz.ntmps63;go_wp2_with fail;go_ret;exact ⟨rfl,rfl⟩
theorem level_8 (w:World):Calls Tryz.prog 63 #[sV [60]] w fun e w'=>e=.returned (.int .i64 1)∧w'=w:=by
 go_enter Tryz.func63,Tryz.ntmps63;go_wp2_with fail;go_ret;exact ⟨rfl,rfl⟩
theorem level_9 (w:World):Calls Tryz.prog 63 #[sV [62]] w fun e w'=>e=.returned (.int .i64 1)∧w'=w:=by
 go_enter Tryz.func63,Tryz.ntmps63;go_wp2_with fail;go_ret;exact ⟨rfl,rfl⟩
theorem level_10 (w:World):Calls Tryz.prog 63 #[sV [60,61]] w fun e w'=>e=.returned (.int .i64 1)∧w'=w:=by
 go_enter Tryz.func63,Tryz.ntmps63;go_wp2_with fail;go_ret;exact ⟨rfl,rfl⟩
theorem level_11 (w:World):Calls Tryz.prog 63 #[sV [62,61]] w fun e w'=>e=.returned (.int .i64 1)∧w'=w:=by
 go_enter Tryz.func63,Tryz.ntmps63;go_wp2_with fail;go_ret;exact ⟨rfl,rfl⟩
theorem cmpSV (k:Int) (n:Bool) (d x:Int) (t:List UInt8) (k':Int) (n':Bool) (d' x':Int) (t':List UInt8) (w:World) (hl:t.length≤2000000) (hl':t'.length≤2000000) (ga:goodV k n d x t=true) (gb:goodV k' n' d' x' t'=true) (h4:k ≠ 4) (h4':k' ≠ 4) :
  Calls Tryz.prog 53 #[valV k n d x t,valV k' n' d' x' t'] w fun e w'=>e=.returned (.int .i64 (compareV k n d x t k' n' d' x' t'))∧Ext w w':=by
 obtain ⟨v1,z1⟩:=beside_eq ga k';obtain ⟨v2,z2⟩:=beside_eq gb k;have HR:cmpR (bk k k') n d x (bt k t k') (bk k' k) n' d' x' (bt k' t' k)=compareV k n d x t k' n' d' x' t':=by simp [compareV,ga,gb,h4,h4']
 rw [← HR];exact cmpS6 k n d x t k' n' d' x' t' w _ _ _ _ _ v1 z1 (bt_len k k' hl) _ _ _ _ _ v2 z2 (bt_len k' k hl')
set_option maxRecDepth 8000 in
set_option maxHeartbeats 2000000 in
theorem l6left (op:List UInt8) (n:Bool) (d x:Int) (t:List UInt8) (k':Int) (n':Bool) (d' x':Int) (t':List UInt8) (w:World) :
  Calls Tryz.prog 38 #[sV op,valV 4 n d x t,valV k' n' d' x' t'] w fun e w'=>e=.returned (valV 4 n d x t)∧Ext w w':=by
 obtain ⟨u0,u1,u2,h0,h1,h2,s0,s1,s2,B0,B1,B2,X⟩:=mkB3 w [.int .i64 4,.bool n,.int .i64 d,.int .i64 x,sV t] [.int .i64 k',.bool n',.int .i64 d',.int .i64 x',sV t'] [.int .i64 0,.bool false,.int .i64 0,.int .i64 0,sV []] 39 39 39;obtain ⟨a0,a1,a2,a3,a4⟩:=Vec.five (B0);obtain ⟨c0,c1,c2,c3,c4⟩:=Vec.five (B1);go_enter Tryz.func38,Tryz.ntmps38;obtain ⟨wy,hy,FX,⟨b0,b1,b2,b3,b4⟩,⟨fb0,fb1,fb2,fb3,fb4⟩,fd0,fd1,fd2,fd3,fd4⟩:=fin5 (B2) (X) (by omega) 4 n d x t;go_wp2_with fail;exact bodyPost_ret (v:=valV 4 n d x t) (by simp [results,Tryz.results38,go_sem,fd0,fd1,fd2,fd3,fd4]) rfl ⟨rfl,FX⟩
set_option maxRecDepth 8000 in
set_option maxHeartbeats 2000000 in
theorem l6right (op:List UInt8) (k:Int) (n:Bool) (d x:Int) (t:List UInt8) (n':Bool) (d' x':Int) (t':List UInt8) (w:World) (h4:k ≠ 4) :
  Calls Tryz.prog 38 #[sV op,valV k n d x t,valV 4 n' d' x' t'] w fun e w'=>e=.returned (valV 4 n' d' x' t')∧Ext w w':=by
 have hk4:(k == 4)=false:=by simpa using h4
 obtain ⟨u0,u1,u2,h0,h1,h2,s0,s1,s2,B0,B1,B2,X⟩:=mkB3 w [.int .i64 k,.bool n,.int .i64 d,.int .i64 x,sV t] [.int .i64 4,.bool n',.int .i64 d',.int .i64 x',sV t'] [.int .i64 0,.bool false,.int .i64 0,.int .i64 0,sV []] 39 39 39;obtain ⟨a0,a1,a2,a3,a4⟩:=Vec.five (B0);obtain ⟨c0,c1,c2,c3,c4⟩:=Vec.five (B1);go_enter Tryz.func38,Tryz.ntmps38;obtain ⟨wy,hy,FX,⟨b0,b1,b2,b3,b4⟩,⟨fb0,fb1,fb2,fb3,fb4⟩,fd0,fd1,fd2,fd3,fd4⟩:=fin5 (B2) (X) (by omega) 4 n' d' x' t';go_wp2_with fail;exact bodyPost_ret (v:=valV 4 n' d' x' t') (by simp [results,Tryz.results38,go_sem,fd0,fd1,fd2,fd3,fd4]) rfl ⟨rfl,FX⟩
set_option maxRecDepth 8000 in
set_option maxHeartbeats 2000000 in
theorem l6join (k:Int) (n:Bool) (d x:Int) (t:List UInt8) (k':Int) (n':Bool) (d' x':Int) (t':List UInt8) (w:World) (ga:goodV k n d x t=true) (gb:goodV k' n' d' x' t'=true) (h4:k ≠ 4) (h4':k' ≠ 4) :
  Calls Tryz.prog 38 #[sV [38],valV k n d x t,valV k' n' d' x' t'] w fun e w'=>e=.returned (joinV k n d x t k' n' d' x' t')∧Ext w w':=by
 have hk4:(k == 4)=false:=by simpa using h4
 have hk4':(k' == 4)=false:=by simpa using h4'
 have ea:∃ ka na da xa,textOf k n d x t=valV ka na da xa (showT k n d x t):=textOf_show k n d x t;have eb:∃ ka na da xa,textOf k' n' d' x' t'=valV ka na da xa (showT k' n' d' x' t'):=textOf_show k' n' d' x' t';obtain ⟨ka,na,da,xa,hva⟩:=ea;obtain ⟨kb,nb,db,xb,hvb⟩:=eb;have SA:=showT_plain ga;have SB:=showT_plain gb;obtain ⟨R,hR⟩:∃ R,joinV k n d x t k' n' d' x' t'=R:=⟨_,rfl⟩;have HR0:Hid (joinV k n d x t k' n' d' x' t'=R):=hR;rw [hR];clear hR;unfold joinV at HR0;obtain ⟨ta,hta⟩:∃ ta,showT k n d x t=ta:=⟨_,rfl⟩;obtain ⟨tb,htb⟩:∃ tb,showT k' n' d' x' t'=tb:=⟨_,rfl⟩;rw [hta] at HR0 SA hva;rw [htb] at HR0 SB hvb;have AJ:=bytes_app ta tb;have HM:Hid (¬ maxLen<(⟨ta.toArray⟩:ByteArray).size+(⟨tb.toArray⟩:ByteArray).size):=by
  show ¬ maxLen<ta.length+tb.length;unfold maxLen;omega
 have LJ:(ta++tb).length≤4000:=by rw [List.length_append];omega
 obtain ⟨J,hJ⟩:∃ J,ta++tb=J:=⟨_,rfl⟩;rw [hJ] at HR0 AJ LJ;have CA:Hid (∀ W,Calls Tryz.prog 61 #[valV k n d x t] W fun e w'=>e=.returned (valV ka na da xa ta)∧Ext W w'):=fun W=>by rw [← hva];exact asTextS k n d x t W
 have CB:Hid (∀ W,Calls Tryz.prog 61 #[valV k' n' d' x' t'] W fun e w'=>e=.returned (valV kb nb db xb tb)∧Ext W w'):=fun W=>by rw [← hvb];exact asTextS k' n' d' x' t' W
 clear hva hvb SA SB hJ hta htb ga gb h4 h4';obtain ⟨u0,u1,u2,h0,h1,h2,s0,s1,s2,B0,B1,B2,X⟩:=mkB3 w [.int .i64 k,.bool n,.int .i64 d,.int .i64 x,sV t] [.int .i64 k',.bool n',.int .i64 d',.int .i64 x',sV t'] [.int .i64 0,.bool false,.int .i64 0,.int .i64 0,sV []] 39 39 39;obtain ⟨a0,a1,a2,a3,a4⟩:=Vec.five (B0);obtain ⟨c0,c1,c2,c3,c4⟩:=Vec.five (B1);go_enter Tryz.func38,Tryz.ntmps38;go_wp2_with fail;clear h0 s0 h1 s1 h2 s2 a0 a1 a2 a3 a4 c0 c1 c2 c3 c4 hk4 hk4';refine wp_region_letters (fun lx:Nat→Value=>{ tmps:=#[sV [38],valV k n d x t,valV k' n' d' x' t',undef,Value.pointer (some ⟨w.heap.size,0,none⟩),Value.pointer (some ⟨w.heap.size+1,0,none⟩),Value.pointer (some ⟨w.heap.size+1+1,0,none⟩),lx 7,undef,undef,undef,Value.pointer (some ⟨w.heap.size,0,none⟩),Value.int .i64 k,Value.bool false,undef,Value.pointer (some ⟨w.heap.size+1,0,none⟩),Value.int .i64 k',Value.bool false,undef,sV [38],Value.bool true,lx 21,lx 22,lx 23,lx 24,lx 25,lx 26,lx 27,undef,undef,undef,undef,undef,undef,undef,undef,undef,undef,undef,undef,undef,undef,undef,undef,undef,undef,undef,undef,undef,undef,undef,undef,undef,undef,undef,undef,undef,undef,undef,undef,undef,undef,undef,undef,undef,undef,undef,undef,undef,undef,undef,undef,undef,undef,undef,undef,undef,undef,undef,undef,undef,undef,undef,undef,undef,undef,undef],defers:=[] }) (fun L lx lw=>Hid (Ext w lw∧Vec lw (w.heap.size) [.int .i64 k,.bool n,.int .i64 d,.int .i64 x,sV t]∧Vec lw (w.heap.size+1) [.int .i64 k',.bool n',.int .i64 d',.int .i64 x',sV t']∧Vec lw (w.heap.size+1+1) [.int .i64 0,.bool false,.int .i64 0,.int .i64 0,sV []]∧(L 0=true→lx 21=valV k n d x t)∧(L 1=true→lx 22=valV ka na da xa ta)∧(L 2=true→lx 23=sV ta)∧(L 3=true→lx 24=valV k' n' d' x' t')∧(L 4=true→lx 25=valV kb nb db xb tb)∧(L 5=true→lx 26=sV tb)∧(L 6=true→lx 27=sV J)∧(L 7=true→lx 7=sV J))) rfl (by kernel_rfl) (fun jj=>undef) rfl ?_ ?_ ?_
 ·exact ⟨xd X,B0.later (xd (xr _)),B1.later (xd (xr _)),B2.later (xd (xr _)),(fun h=>by cases h),(fun h=>by cases h),(fun h=>by cases h),(fun h=>by cases h),(fun h=>by cases h),(fun h=>by cases h),(fun h=>by cases h),(fun h=>by cases h)⟩
 ·intro L lx wl i o K hK ho hL haf hI;obtain ⟨X,f0,f1,f2,f3,f4,f5,f6,f7,f8,f9,f10⟩:=hI.out
  match i,ho,hL,haf,hK with
  | 0,ho,hL,haf,hK =>
   simp only [List.getElem?_toArray,List.getElem?_cons_zero,Option.some.injEq] at ho;subst ho
   (try dsimp only)
   obtain ⟨a0,a1,a2,a3,a4⟩:=Vec.five (f0);go_wp2_with fail;exact hK (fun jj=>if jj=21 then valV k n d x t else lx jj) _ ⟨X,f0,f1,f2,(fun _=>rfl),f4,f5,f6,f7,f8,f9,f10⟩
  | 1,ho,hL,haf,hK =>
   simp only [List.getElem?_toArray,List.getElem?_cons_zero,List.getElem?_cons_succ,Option.some.injEq] at ho;subst ho
   (try dsimp only)
   rw [f3 (haf ⟨0,.data⟩ (by simp) rfl)];go_wp2_with fail;refine (CA.out wl).mono ?_;rintro rr w' ⟨rfl,E⟩;go_wp2_with fail;exact hK (fun jj=>if jj=22 then valV ka na da xa ta else if jj=21 then valV k n d x t else lx jj) _ ⟨xt X E,(f0.later E),(f1.later E),(f2.later E),(fun _=>rfl),(fun _=>rfl),f5,f6,f7,f8,f9,f10⟩
  | 2,ho,hL,haf,hK =>
   simp only [List.getElem?_toArray,List.getElem?_cons_zero,List.getElem?_cons_succ,Option.some.injEq] at ho;subst ho
   (try dsimp only)
   rw [f4 (haf ⟨1,.data⟩ (by simp) rfl)];have FT:=field_text ka na da xa ta wl;go_wp2_with fail;exact hK (fun jj=>if jj=23 then sV ta else if jj=22 then valV ka na da xa ta else lx jj) _ ⟨X,f0,f1,f2,f3,(fun _=>rfl),(fun _=>rfl),f6,f7,f8,f9,f10⟩
  | 3,ho,hL,haf,hK =>
   simp only [List.getElem?_toArray,List.getElem?_cons_zero,List.getElem?_cons_succ,Option.some.injEq] at ho;subst ho
   (try dsimp only)
   obtain ⟨a0,a1,a2,a3,a4⟩:=Vec.five (f1);go_wp2_with fail;exact hK (fun jj=>if jj=24 then valV k' n' d' x' t' else lx jj) _ ⟨X,f0,f1,f2,f3,f4,f5,(fun _=>rfl),f7,f8,f9,f10⟩
  | 4,ho,hL,haf,hK =>
   simp only [List.getElem?_toArray,List.getElem?_cons_zero,List.getElem?_cons_succ,Option.some.injEq] at ho;subst ho
   (try dsimp only)
   rw [f6 (haf ⟨3,.data⟩ (by simp) rfl)];go_wp2_with fail;refine (CB.out wl).mono ?_;rintro rr w' ⟨rfl,E⟩;go_wp2_with fail;exact hK (fun jj=>if jj=25 then valV kb nb db xb tb else if jj=24 then valV k' n' d' x' t' else lx jj) _ ⟨xt X E,(f0.later E),(f1.later E),(f2.later E),f3,f4,f5,(fun _=>rfl),(fun _=>rfl),f8,f9,f10⟩
  | 5,ho,hL,haf,hK =>
   simp only [List.getElem?_toArray,List.getElem?_cons_zero,List.getElem?_cons_succ,Option.some.injEq] at ho;subst ho
   (try dsimp only)
   rw [f7 (haf ⟨4,.data⟩ (by simp) rfl)];have FT:=field_text kb nb db xb tb wl;go_wp2_with fail;exact hK (fun jj=>if jj=26 then sV tb else if jj=25 then valV kb nb db xb tb else lx jj) _ ⟨X,f0,f1,f2,f3,f4,f5,f6,(fun _=>rfl),(fun _=>rfl),f9,f10⟩
  | 6,ho,hL,haf,hK =>
   simp only [List.getElem?_toArray,List.getElem?_cons_zero,List.getElem?_cons_succ,Option.some.injEq] at ho;subst ho
   (try dsimp only)
   rw [f5 (haf ⟨2,.data⟩ (by simp) rfl),f8 (haf ⟨5,.data⟩ (by simp) rfl)];have i1:¬ maxLen<(⟨ta.toArray⟩:ByteArray).size+(⟨tb.toArray⟩:ByteArray).size:=HM.out;go_wp2_with fail;exact hK (fun jj=>if jj=27 then sV J else if jj=23 then sV ta else if jj=26 then sV tb else lx jj) _ ⟨X,f0,f1,f2,f3,f4,(fun _=>rfl),f6,f7,(fun _=>rfl),(fun _=>rfl),f10⟩
  | 7,ho,hL,haf,hK =>
   simp only [List.getElem?_toArray,List.getElem?_cons_zero,List.getElem?_cons_succ,Option.some.injEq] at ho;subst ho
   (try dsimp only)
   rw [f9 (haf ⟨6,.data⟩ (by simp) rfl)];go_wp2_with fail;exact hK (fun jj=>if jj=7 then sV J else if jj=27 then sV J else lx jj) _ ⟨X,f0,f1,f2,f3,f4,f5,f6,f7,f8,(fun _=>rfl),(fun _=>rfl)⟩
  | k+8,ho,_,_,_=>simp at ho
 ·intro L lx wr hall hI;obtain ⟨XR,f0,f1,f2,f3,f4,f5,f6,f7,f8,f9,f10⟩:=hI.out;clear hI;have G0:=f0;have G1:=f1;have G2:=f2;replace f3:=f3 (hall 0 (by simp));replace f4:=f4 (hall 1 (by simp));replace f5:=f5 (hall 2 (by simp));replace f6:=f6 (hall 3 (by simp));replace f7:=f7 (hall 4 (by simp));replace f8:=f8 (hall 5 (by simp));replace f9:=f9 (hall 6 (by simp));replace f10:=f10 (hall 7 (by simp))
  (try dsimp only)
  rw [f3,f4,f5,f6,f7,f8,f9,f10];clear hall f0 f1 f2 f3 f4 f5 f6 f7 f8 f9 f10;clear B0 B1 B2 CA CB G0 G1 HM AJ;have hz:(⟨J.toArray⟩:ByteArray).size=J.length:=rfl;by_cases hJL:J.length≤1000
  ·have HR:Hid (valV 2 false 0 0 J=R):=by show _=_;rw [← HR0.out,if_pos hJL]
   clear HR0;have i1:¬ (1000:Int)<(J.length:Int):=by omega
   go_wp2_with fail;refine (textVS J wr).mono ?_;rintro e w2 ⟨rfl,e2⟩;obtain ⟨wy,hy,FX,⟨b0,b1,b2,b3,b4⟩,⟨fb0,fb1,fb2,fb3,fb4⟩,fd0,fd1,fd2,fd3,fd4⟩:=fin5 (G2.later e2) (xt XR e2) (by omega) 2 false 0 0 J;go_wp2_with fail;exact bodyPost_ret (v:=valV 2 false 0 0 J) (by simp [results,Tryz.results38,go_sem,fd0,fd1,fd2,fd3,fd4]) rfl ⟨congrArg Ending.returned HR.out,FX⟩
  ·have HR:Hid (errW=R):=by show _=_;rw [← HR0.out,if_neg hJL]
   clear HR0;have i1:(1000:Int)<(J.length:Int):=by omega
   go_wp2_with fail;refine (errVS errT wr).mono ?_;rintro e w2 ⟨rfl,e2⟩;obtain ⟨wy,hy,FX,⟨b0,b1,b2,b3,b4⟩,⟨fb0,fb1,fb2,fb3,fb4⟩,fd0,fd1,fd2,fd3,fd4⟩:=fin5 (G2.later e2) (xt XR e2) (by omega) 4 false 0 0 errT;go_wp2_with fail;exact bodyPost_ret (v:=valV 4 false 0 0 errT) (by simp [results,Tryz.results38,go_sem,fd0,fd1,fd2,fd3,fd4]) rfl ⟨congrArg Ending.returned HR.out,FX⟩
set_option maxRecDepth 8000 in
set_option maxHeartbeats 2000000 in
theorem l6ord_6 (k:Int) (n:Bool) (d x:Int) (t:List UInt8) (k':Int) (n':Bool) (d' x':Int) (t':List UInt8) (w:World) (hl:t.length≤1048576) (hl':t'.length≤1048576) (ga:goodV k n d x t=true) (gb:goodV k' n' d' x' t'=true) (h4:k ≠ 4) (h4':k' ≠ 4) :
  Calls Tryz.prog 38 #[sV [61],valV k n d x t,valV k' n' d' x' t'] w fun e w'=>e=.returned (boolW (ordB 6 (compareV k n d x t k' n' d' x' t')))∧Ext w w':=by
 have hk4:(k == 4)=false:=by simpa using h4
 have hk4':(k' == 4)=false:=by simpa using h4'
 have CC:Hid (∀ W,Calls Tryz.prog 53 #[valV k n d x t,valV k' n' d' x' t'] W fun e w'=>e=.returned (.int .i64 (compareV k n d x t k' n' d' x' t'))∧Ext W w'):=fun W=>cmpSV k n d x t k' n' d' x' t' W (by omega) (by omega) ga gb h4 h4';obtain ⟨c,hc⟩:∃ c,compareV k n d x t k' n' d' x' t'=c:=⟨_,rfl⟩;rw [hc] at CC ⊢;clear hc hl hl' ga gb h4 h4';change Calls _ _ _ _ fun e w'=>e=.returned (valV 3 false 0 0 (if (c == 0)=true then trueT else falseT))∧_;obtain ⟨tt,htt⟩:∃ tt,(if (c == 0)=true then trueT else falseT)=tt:=⟨_,rfl⟩;have CB:Hid (∀ W,Calls Tryz.prog 64 #[.bool (c == 0)] W fun e w'=>e=.returned (valV 3 false 0 0 tt)∧Ext W w'):=fun W=>by rw [← htt];exact boolVS _ W
 rw [htt];clear htt;obtain ⟨u0,u1,u2,h0,h1,h2,s0,s1,s2,B0,B1,B2,X⟩:=mkB3 w [.int .i64 k,.bool n,.int .i64 d,.int .i64 x,sV t] [.int .i64 k',.bool n',.int .i64 d',.int .i64 x',sV t'] [.int .i64 0,.bool false,.int .i64 0,.int .i64 0,sV []] 39 39 39;obtain ⟨a0,a1,a2,a3,a4⟩:=Vec.five (B0);obtain ⟨c0,c1,c2,c3,c4⟩:=Vec.five (B1);go_enter Tryz.func38,Tryz.ntmps38;go_wp2_with fail;refine (level_6 u2).mono ?_;rintro e w0 ⟨rfl,rfl⟩;go_wp2_with fail;clear h0 s0 h1 s1 h2 s2 a0 a1 a2 a3 a4 c0 c1 c2 c3 c4;refine (CC.out w0).mono ?_;rintro e w1 ⟨rfl,e1⟩;have Xw:=xt X e1;have C2:=B2.later e1;clear B0 B1 B2 CC;go_wp2_with fail;refine (CB.out w1).mono ?_;rintro e w2 ⟨rfl,e2⟩;obtain ⟨wy,hy,FX,⟨b0,b1,b2,b3,b4⟩,⟨fb0,fb1,fb2,fb3,fb4⟩,fd0,fd1,fd2,fd3,fd4⟩:=fin5 (C2.later e2) (xt Xw e2) (by omega) 3 false 0 0 tt;go_wp2_with fail;exact bodyPost_ret (v:=valV 3 false 0 0 tt) (by simp [results,Tryz.results38,go_sem,fd0,fd1,fd2,fd3,fd4]) rfl ⟨rfl,FX⟩
set_option maxRecDepth 8000 in
set_option maxHeartbeats 2000000 in
theorem l6ord_7 (k:Int) (n:Bool) (d x:Int) (t:List UInt8) (k':Int) (n':Bool) (d' x':Int) (t':List UInt8) (w:World) (hl:t.length≤1048576) (hl':t'.length≤1048576) (ga:goodV k n d x t=true) (gb:goodV k' n' d' x' t'=true) (h4:k ≠ 4) (h4':k' ≠ 4) :
  Calls Tryz.prog 38 #[sV [60,62],valV k n d x t,valV k' n' d' x' t'] w fun e w'=>e=.returned (boolW (ordB 7 (compareV k n d x t k' n' d' x' t')))∧Ext w w':=by
 have hk4:(k == 4)=false:=by simpa using h4
 have hk4':(k' == 4)=false:=by simpa using h4'
 have CC:Hid (∀ W,Calls Tryz.prog 53 #[valV k n d x t,valV k' n' d' x' t'] W fun e w'=>e=.returned (.int .i64 (compareV k n d x t k' n' d' x' t'))∧Ext W w'):=fun W=>cmpSV k n d x t k' n' d' x' t' W (by omega) (by omega) ga gb h4 h4';obtain ⟨c,hc⟩:∃ c,compareV k n d x t k' n' d' x' t'=c:=⟨_,rfl⟩;rw [hc] at CC ⊢;clear hc hl hl' ga gb h4 h4';change Calls _ _ _ _ fun e w'=>e=.returned (valV 3 false 0 0 (if (c != 0)=true then trueT else falseT))∧_;obtain ⟨tt,htt⟩:∃ tt,(if (c != 0)=true then trueT else falseT)=tt:=⟨_,rfl⟩;have CB:Hid (∀ W,Calls Tryz.prog 64 #[.bool (c != 0)] W fun e w'=>e=.returned (valV 3 false 0 0 tt)∧Ext W w'):=fun W=>by rw [← htt];exact boolVS _ W
 rw [htt];clear htt;obtain ⟨u0,u1,u2,h0,h1,h2,s0,s1,s2,B0,B1,B2,X⟩:=mkB3 w [.int .i64 k,.bool n,.int .i64 d,.int .i64 x,sV t] [.int .i64 k',.bool n',.int .i64 d',.int .i64 x',sV t'] [.int .i64 0,.bool false,.int .i64 0,.int .i64 0,sV []] 39 39 39;obtain ⟨a0,a1,a2,a3,a4⟩:=Vec.five (B0);obtain ⟨c0,c1,c2,c3,c4⟩:=Vec.five (B1);go_enter Tryz.func38,Tryz.ntmps38;go_wp2_with fail;refine (level_7 u2).mono ?_;rintro e w0 ⟨rfl,rfl⟩;go_wp2_with fail;clear h0 s0 h1 s1 h2 s2 a0 a1 a2 a3 a4 c0 c1 c2 c3 c4;refine (CC.out w0).mono ?_;rintro e w1 ⟨rfl,e1⟩;have Xw:=xt X e1;have C2:=B2.later e1;clear B0 B1 B2 CC;go_wp2_with fail;refine (CB.out w1).mono ?_;rintro e w2 ⟨rfl,e2⟩;obtain ⟨wy,hy,FX,⟨b0,b1,b2,b3,b4⟩,⟨fb0,fb1,fb2,fb3,fb4⟩,fd0,fd1,fd2,fd3,fd4⟩:=fin5 (C2.later e2) (xt Xw e2) (by omega) 3 false 0 0 tt;go_wp2_with fail;exact bodyPost_ret (v:=valV 3 false 0 0 tt) (by simp [results,Tryz.results38,go_sem,fd0,fd1,fd2,fd3,fd4]) rfl ⟨rfl,FX⟩
set_option maxRecDepth 8000 in
set_option maxHeartbeats 2000000 in
theorem l6ord_8 (k:Int) (n:Bool) (d x:Int) (t:List UInt8) (k':Int) (n':Bool) (d' x':Int) (t':List UInt8) (w:World) (hl:t.length≤1048576) (hl':t'.length≤1048576) (ga:goodV k n d x t=true) (gb:goodV k' n' d' x' t'=true) (h4:k ≠ 4) (h4':k' ≠ 4) :
  Calls Tryz.prog 38 #[sV [60],valV k n d x t,valV k' n' d' x' t'] w fun e w'=>e=.returned (boolW (ordB 8 (compareV k n d x t k' n' d' x' t')))∧Ext w w':=by
 have hk4:(k == 4)=false:=by simpa using h4
 have hk4':(k' == 4)=false:=by simpa using h4'
 have CC:Hid (∀ W,Calls Tryz.prog 53 #[valV k n d x t,valV k' n' d' x' t'] W fun e w'=>e=.returned (.int .i64 (compareV k n d x t k' n' d' x' t'))∧Ext W w'):=fun W=>cmpSV k n d x t k' n' d' x' t' W (by omega) (by omega) ga gb h4 h4';obtain ⟨c,hc⟩:∃ c,compareV k n d x t k' n' d' x' t'=c:=⟨_,rfl⟩;rw [hc] at CC ⊢;clear hc hl hl' ga gb h4 h4';change Calls _ _ _ _ fun e w'=>e=.returned (valV 3 false 0 0 (if (decide (c<0))=true then trueT else falseT))∧_;obtain ⟨tt,htt⟩:∃ tt,(if (decide (c<0))=true then trueT else falseT)=tt:=⟨_,rfl⟩;have CB:Hid (∀ W,Calls Tryz.prog 64 #[.bool (decide (c<0))] W fun e w'=>e=.returned (valV 3 false 0 0 tt)∧Ext W w'):=fun W=>by rw [← htt];exact boolVS _ W
 rw [htt];clear htt;obtain ⟨u0,u1,u2,h0,h1,h2,s0,s1,s2,B0,B1,B2,X⟩:=mkB3 w [.int .i64 k,.bool n,.int .i64 d,.int .i64 x,sV t] [.int .i64 k',.bool n',.int .i64 d',.int .i64 x',sV t'] [.int .i64 0,.bool false,.int .i64 0,.int .i64 0,sV []] 39 39 39;obtain ⟨a0,a1,a2,a3,a4⟩:=Vec.five (B0);obtain ⟨c0,c1,c2,c3,c4⟩:=Vec.five (B1);go_enter Tryz.func38,Tryz.ntmps38;go_wp2_with fail;refine (level_8 u2).mono ?_;rintro e w0 ⟨rfl,rfl⟩;go_wp2_with fail;clear h0 s0 h1 s1 h2 s2 a0 a1 a2 a3 a4 c0 c1 c2 c3 c4;refine (CC.out w0).mono ?_;rintro e w1 ⟨rfl,e1⟩;have Xw:=xt X e1;have C2:=B2.later e1;clear B0 B1 B2 CC;go_wp2_with fail;refine (CB.out w1).mono ?_;rintro e w2 ⟨rfl,e2⟩;obtain ⟨wy,hy,FX,⟨b0,b1,b2,b3,b4⟩,⟨fb0,fb1,fb2,fb3,fb4⟩,fd0,fd1,fd2,fd3,fd4⟩:=fin5 (C2.later e2) (xt Xw e2) (by omega) 3 false 0 0 tt;go_wp2_with fail;exact bodyPost_ret (v:=valV 3 false 0 0 tt) (by simp [results,Tryz.results38,go_sem,fd0,fd1,fd2,fd3,fd4]) rfl ⟨rfl,FX⟩
set_option maxRecDepth 8000 in
set_option maxHeartbeats 2000000 in
theorem l6ord_9 (k:Int) (n:Bool) (d x:Int) (t:List UInt8) (k':Int) (n':Bool) (d' x':Int) (t':List UInt8) (w:World) (hl:t.length≤1048576) (hl':t'.length≤1048576) (ga:goodV k n d x t=true) (gb:goodV k' n' d' x' t'=true) (h4:k ≠ 4) (h4':k' ≠ 4) :
  Calls Tryz.prog 38 #[sV [62],valV k n d x t,valV k' n' d' x' t'] w fun e w'=>e=.returned (boolW (ordB 9 (compareV k n d x t k' n' d' x' t')))∧Ext w w':=by
 have hk4:(k == 4)=false:=by simpa using h4
 have hk4':(k' == 4)=false:=by simpa using h4'
 have CC:Hid (∀ W,Calls Tryz.prog 53 #[valV k n d x t,valV k' n' d' x' t'] W fun e w'=>e=.returned (.int .i64 (compareV k n d x t k' n' d' x' t'))∧Ext W w'):=fun W=>cmpSV k n d x t k' n' d' x' t' W (by omega) (by omega) ga gb h4 h4';obtain ⟨c,hc⟩:∃ c,compareV k n d x t k' n' d' x' t'=c:=⟨_,rfl⟩;rw [hc] at CC ⊢;clear hc hl hl' ga gb h4 h4';change Calls _ _ _ _ fun e w'=>e=.returned (valV 3 false 0 0 (if (decide (0<c))=true then trueT else falseT))∧_;obtain ⟨tt,htt⟩:∃ tt,(if (decide (0<c))=true then trueT else falseT)=tt:=⟨_,rfl⟩;have CB:Hid (∀ W,Calls Tryz.prog 64 #[.bool (decide (0<c))] W fun e w'=>e=.returned (valV 3 false 0 0 tt)∧Ext W w'):=fun W=>by rw [← htt];exact boolVS _ W
 rw [htt];clear htt;obtain ⟨u0,u1,u2,h0,h1,h2,s0,s1,s2,B0,B1,B2,X⟩:=mkB3 w [.int .i64 k,.bool n,.int .i64 d,.int .i64 x,sV t] [.int .i64 k',.bool n',.int .i64 d',.int .i64 x',sV t'] [.int .i64 0,.bool false,.int .i64 0,.int .i64 0,sV []] 39 39 39;obtain ⟨a0,a1,a2,a3,a4⟩:=Vec.five (B0);obtain ⟨c0,c1,c2,c3,c4⟩:=Vec.five (B1);go_enter Tryz.func38,Tryz.ntmps38;go_wp2_with fail;refine (level_9 u2).mono ?_;rintro e w0 ⟨rfl,rfl⟩;go_wp2_with fail;clear h0 s0 h1 s1 h2 s2 a0 a1 a2 a3 a4 c0 c1 c2 c3 c4;refine (CC.out w0).mono ?_;rintro e w1 ⟨rfl,e1⟩;have Xw:=xt X e1;have C2:=B2.later e1;clear B0 B1 B2 CC;go_wp2_with fail;refine (CB.out w1).mono ?_;rintro e w2 ⟨rfl,e2⟩;obtain ⟨wy,hy,FX,⟨b0,b1,b2,b3,b4⟩,⟨fb0,fb1,fb2,fb3,fb4⟩,fd0,fd1,fd2,fd3,fd4⟩:=fin5 (C2.later e2) (xt Xw e2) (by omega) 3 false 0 0 tt;go_wp2_with fail;exact bodyPost_ret (v:=valV 3 false 0 0 tt) (by simp [results,Tryz.results38,go_sem,fd0,fd1,fd2,fd3,fd4]) rfl ⟨rfl,FX⟩
set_option maxRecDepth 8000 in
set_option maxHeartbeats 2000000 in
theorem l6ord_10 (k:Int) (n:Bool) (d x:Int) (t:List UInt8) (k':Int) (n':Bool) (d' x':Int) (t':List UInt8) (w:World) (hl:t.length≤1048576) (hl':t'.length≤1048576) (ga:goodV k n d x t=true) (gb:goodV k' n' d' x' t'=true) (h4:k ≠ 4) (h4':k' ≠ 4) :
  Calls Tryz.prog 38 #[sV [60,61],valV k n d x t,valV k' n' d' x' t'] w fun e w'=>e=.returned (boolW (ordB 10 (compareV k n d x t k' n' d' x' t')))∧Ext w w':=by
 have hk4:(k == 4)=false:=by simpa using h4
 have hk4':(k' == 4)=false:=by simpa using h4'
 have CC:Hid (∀ W,Calls Tryz.prog 53 #[valV k n d x t,valV k' n' d' x' t'] W fun e w'=>e=.returned (.int .i64 (compareV k n d x t k' n' d' x' t'))∧Ext W w'):=fun W=>cmpSV k n d x t k' n' d' x' t' W (by omega) (by omega) ga gb h4 h4';obtain ⟨c,hc⟩:∃ c,compareV k n d x t k' n' d' x' t'=c:=⟨_,rfl⟩;rw [hc] at CC ⊢;clear hc hl hl' ga gb h4 h4';change Calls _ _ _ _ fun e w'=>e=.returned (valV 3 false 0 0 (if (decide (c≤0))=true then trueT else falseT))∧_;obtain ⟨tt,htt⟩:∃ tt,(if (decide (c≤0))=true then trueT else falseT)=tt:=⟨_,rfl⟩;have CB:Hid (∀ W,Calls Tryz.prog 64 #[.bool (decide (c≤0))] W fun e w'=>e=.returned (valV 3 false 0 0 tt)∧Ext W w'):=fun W=>by rw [← htt];exact boolVS _ W
 rw [htt];clear htt;obtain ⟨u0,u1,u2,h0,h1,h2,s0,s1,s2,B0,B1,B2,X⟩:=mkB3 w [.int .i64 k,.bool n,.int .i64 d,.int .i64 x,sV t] [.int .i64 k',.bool n',.int .i64 d',.int .i64 x',sV t'] [.int .i64 0,.bool false,.int .i64 0,.int .i64 0,sV []] 39 39 39;obtain ⟨a0,a1,a2,a3,a4⟩:=Vec.five (B0);obtain ⟨c0,c1,c2,c3,c4⟩:=Vec.five (B1);go_enter Tryz.func38,Tryz.ntmps38;go_wp2_with fail;refine (level_10 u2).mono ?_;rintro e w0 ⟨rfl,rfl⟩;go_wp2_with fail;clear h0 s0 h1 s1 h2 s2 a0 a1 a2 a3 a4 c0 c1 c2 c3 c4;refine (CC.out w0).mono ?_;rintro e w1 ⟨rfl,e1⟩;have Xw:=xt X e1;have C2:=B2.later e1;clear B0 B1 B2 CC;go_wp2_with fail;refine (CB.out w1).mono ?_;rintro e w2 ⟨rfl,e2⟩;obtain ⟨wy,hy,FX,⟨b0,b1,b2,b3,b4⟩,⟨fb0,fb1,fb2,fb3,fb4⟩,fd0,fd1,fd2,fd3,fd4⟩:=fin5 (C2.later e2) (xt Xw e2) (by omega) 3 false 0 0 tt;go_wp2_with fail;exact bodyPost_ret (v:=valV 3 false 0 0 tt) (by simp [results,Tryz.results38,go_sem,fd0,fd1,fd2,fd3,fd4]) rfl ⟨rfl,FX⟩
set_option maxRecDepth 8000 in
set_option maxHeartbeats 2000000 in
theorem l6ord_11 (k:Int) (n:Bool) (d x:Int) (t:List UInt8) (k':Int) (n':Bool) (d' x':Int) (t':List UInt8) (w:World) (hl:t.length≤1048576) (hl':t'.length≤1048576) (ga:goodV k n d x t=true) (gb:goodV k' n' d' x' t'=true) (h4:k ≠ 4) (h4':k' ≠ 4) :
  Calls Tryz.prog 38 #[sV [62,61],valV k n d x t,valV k' n' d' x' t'] w fun e w'=>e=.returned (boolW (ordB 11 (compareV k n d x t k' n' d' x' t')))∧Ext w w':=by
 have hk4:(k == 4)=false:=by simpa using h4
 have hk4':(k' == 4)=false:=by simpa using h4'
 have CC:Hid (∀ W,Calls Tryz.prog 53 #[valV k n d x t,valV k' n' d' x' t'] W fun e w'=>e=.returned (.int .i64 (compareV k n d x t k' n' d' x' t'))∧Ext W w'):=fun W=>cmpSV k n d x t k' n' d' x' t' W (by omega) (by omega) ga gb h4 h4';obtain ⟨c,hc⟩:∃ c,compareV k n d x t k' n' d' x' t'=c:=⟨_,rfl⟩;rw [hc] at CC ⊢;clear hc hl hl' ga gb h4 h4';change Calls _ _ _ _ fun e w'=>e=.returned (valV 3 false 0 0 (if (decide (0≤c))=true then trueT else falseT))∧_;obtain ⟨tt,htt⟩:∃ tt,(if (decide (0≤c))=true then trueT else falseT)=tt:=⟨_,rfl⟩;have CB:Hid (∀ W,Calls Tryz.prog 64 #[.bool (decide (0≤c))] W fun e w'=>e=.returned (valV 3 false 0 0 tt)∧Ext W w'):=fun W=>by rw [← htt];exact boolVS _ W
 rw [htt];clear htt;obtain ⟨u0,u1,u2,h0,h1,h2,s0,s1,s2,B0,B1,B2,X⟩:=mkB3 w [.int .i64 k,.bool n,.int .i64 d,.int .i64 x,sV t] [.int .i64 k',.bool n',.int .i64 d',.int .i64 x',sV t'] [.int .i64 0,.bool false,.int .i64 0,.int .i64 0,sV []] 39 39 39;obtain ⟨a0,a1,a2,a3,a4⟩:=Vec.five (B0);obtain ⟨c0,c1,c2,c3,c4⟩:=Vec.five (B1);go_enter Tryz.func38,Tryz.ntmps38;go_wp2_with fail;refine (level_11 u2).mono ?_;rintro e w0 ⟨rfl,rfl⟩;go_wp2_with fail;clear h0 s0 h1 s1 h2 s2 a0 a1 a2 a3 a4 c0 c1 c2 c3 c4;refine (CC.out w0).mono ?_;rintro e w1 ⟨rfl,e1⟩;have Xw:=xt X e1;have C2:=B2.later e1;clear B0 B1 B2 CC;go_wp2_with fail;refine (CB.out w1).mono ?_;rintro e w2 ⟨rfl,e2⟩;obtain ⟨wy,hy,FX,⟨b0,b1,b2,b3,b4⟩,⟨fb0,fb1,fb2,fb3,fb4⟩,fd0,fd1,fd2,fd3,fd4⟩:=fin5 (C2.later e2) (xt Xw e2) (by omega) 3 false 0 0 tt;go_wp2_with fail;exact bodyPost_ret (v:=valV 3 false 0 0 tt) (by simp [results,Tryz.results38,go_sem,fd0,fd1,fd2,fd3,fd4]) rfl ⟨rfl,FX⟩
set_option maxRecDepth 8000 in
set_option maxHeartbeats 2000000 in
theorem reck1 (k:Int) (n:Bool) (d x:Int) (t:List UInt8) (k':Int) (n':Bool) (d' x':Int) (t':List UInt8) (f p:Nat) (HF:∀ ar w,(callFunc f ar).run Tryz.prog w=.ok (.enter f ar) w) (w:World) (hp:w.cell? ⟨p,0,none⟩=some (fnV f)) {k2:Int} {n2:Bool} {d2 x2:Int} {t2:List UInt8}
  (H:∀ w1,Ext w w1→Calls Tryz.prog f #[decV n d x,decV n' d' x'] w1 fun e w'=>e=.returned (valV k2 n2 d2 x2 t2)∧Ext w1 w') :
  Calls Tryz.prog 162 #[valV k n d x t,valV k' n' d' x' t',.pointer (some ⟨p,0,none⟩)] w fun e w'=>e=.returned (valV k2 n2 d2 x2 t2)∧Ext w w':=by
 obtain ⟨u0,u1,u2,h0,h1,h2,s0,s1,s2,B0,B1,B2,X⟩:=mkB3 w [.int .i64 k,.bool n,.int .i64 d,.int .i64 x,sV t] [.int .i64 k',.bool n',.int .i64 d',.int .i64 x',sV t'] [.int .i64 0,.bool false,.int .i64 0,.int .i64 0,sV []] 39 39 39;obtain ⟨a0,a1,a2,a3,a4⟩:=Vec.five (B0);obtain ⟨c0,c1,c2,c3,c4⟩:=Vec.five (B1);have q0:=cell_later X hp;go_enter Tryz.func162,Tryz.ntmps162;go_wp2_with fail;clear h0 s0 h1 s1 h2 s2 a0 a1 a2 a3 a4 c0 c1 c2 c3 c4 q0;refine (H u2 X).mono ?_;rintro e w1 ⟨rfl,e1⟩;obtain ⟨wy,hy,FX,⟨b0,b1,b2,b3,b4⟩,⟨fb0,fb1,fb2,fb3,fb4⟩,fd0,fd1,fd2,fd3,fd4⟩:=fin5 (B2.later e1) (xt X e1) (by omega) k2 n2 d2 x2 t2;go_wp2_with fail;exact bodyPost_ret (v:=valV k2 n2 d2 x2 t2) (by simp [results,Tryz.results162,go_sem,fd0,fd1,fd2,fd3,fd4]) rfl ⟨rfl,FX⟩
set_option maxRecDepth 8000 in
set_option maxHeartbeats 2000000 in
theorem reckW (k:Int) (n:Bool) (d x:Int) (t:List UInt8) (k':Int) (n':Bool) (d' x':Int) (t':List UInt8) (f:Nat) (w:World) (ka:Int) (na:Bool) (da xa:Int) (ta:List UInt8) (kb:Int) (nb:Bool) (db xb:Int) (tb:List UInt8) {k2:Int} {n2:Bool} {d2 x2:Int} {t2:List UInt8}
  (HA:∀ w1,Ext w w1→Calls Tryz.prog 110 #[valV k n d x t] w1 fun e w'=>e=.returned (valV ka na da xa ta)∧Ext w1 w')
  (HB:∀ w1,Ext w w1→Calls Tryz.prog 110 #[valV k' n' d' x' t'] w1 fun e w'=>e=.returned (valV kb nb db xb tb)∧Ext w1 w')
  (HO:∀ w1 p,Ext w w1→w1.cell? ⟨p,0,none⟩=some (fnV f)→Calls Tryz.prog 72 #[.func (.func 162) #[] #[.pointer (some ⟨p,0,none⟩)],valV ka na da xa ta,valV kb nb db xb tb] w1 fun e w'=>e=.returned (valV k2 n2 d2 x2 t2)∧Ext w1 w') :
  Calls Tryz.prog 129 #[valV k n d x t,valV k' n' d' x' t',fnV f] w fun e w'=>e=.returned (valV k2 n2 d2 x2 t2)∧Ext w w':=by
 obtain ⟨u0,u1,u2,u3,h0,h1,h2,h3,s0,s1,s2,s3,B0,B1,B2,B3,X⟩:=mkB4 w [.int .i64 k,.bool n,.int .i64 d,.int .i64 x,sV t] [.int .i64 k',.bool n',.int .i64 d',.int .i64 x',sV t'] [fnV f] [.int .i64 0,.bool false,.int .i64 0,.int .i64 0,sV []] 39 39 106 39;obtain ⟨a0,a1,a2,a3,a4⟩:=Vec.five (B0);obtain ⟨c0,c1,c2,c3,c4⟩:=Vec.five (B1);go_enter Tryz.func129,Tryz.ntmps129;go_wp2_with fail;clear h0 s0 h1 s1 h2 s2 h3 s3 a0 a1 a2 a3 a4 c0 c1 c2 c3 c4;refine wp_region_letters (fun lx:Nat→Value=>{ tmps:=#[valV k n d x t,valV k' n' d' x' t',fnV f,Value.pointer (some ⟨w.heap.size,0,none⟩),Value.pointer (some ⟨w.heap.size+1,0,none⟩),Value.pointer (some ⟨w.heap.size+1+1,0,none⟩),Value.pointer (some ⟨w.heap.size+1+1+1,0,none⟩),Value.func (Fn.func 162) #[] #[Value.pointer (some ⟨w.heap.size+1+1,0,none⟩)],Value.func (Fn.func 162) #[] #[Value.pointer (some ⟨w.heap.size+1+1,0,none⟩)],lx 9,lx 10,lx 11,lx 12,lx 13,lx 14],defers:=[] }) (fun L lx lw=>Hid (Ext w lw∧Vec lw (w.heap.size) [.int .i64 k,.bool n,.int .i64 d,.int .i64 x,sV t]∧Vec lw (w.heap.size+1) [.int .i64 k',.bool n',.int .i64 d',.int .i64 x',sV t']∧Vec lw (w.heap.size+1+1) [fnV f]∧(L 0=true→lx 9=Value.func (Fn.func 162) #[] #[Value.pointer (some ⟨w.heap.size+1+1,0,none⟩)])∧(L 1=true→lx 10=valV k n d x t)∧(L 2=true→lx 11=valV ka na da xa ta)∧(L 3=true→lx 12=valV k' n' d' x' t')∧(L 4=true→lx 13=valV kb nb db xb tb)∧(L 5=true→lx 14=valV k2 n2 d2 x2 t2)∧(L 6=false→Vec lw (w.heap.size+1+1+1) [.int .i64 0,.bool false,.int .i64 0,.int .i64 0,sV []])∧(L 6=true→Vec lw (w.heap.size+1+1+1) [.int .i64 k2,.bool n2,.int .i64 d2,.int .i64 x2,sV t2]))) rfl (by kernel_rfl) (fun jj=>undef) rfl ?_ ?_ ?_
 ·exact ⟨xd X,B0.later (xd (xr _)),B1.later (xd (xr _)),B2.later (xd (xr _)),(fun h=>by cases h),(fun h=>by cases h),(fun h=>by cases h),(fun h=>by cases h),(fun h=>by cases h),(fun h=>by cases h),fun _=>B3.later (xd (xr _)),(fun h=>by cases h)⟩
 ·intro L lx wl i o K hK ho hL haf hI;obtain ⟨X,f0,f1,f2,f3,f4,f5,f6,f7,f8,f9,f10⟩:=hI.out
  match i,ho,hL,haf,hK with
  | 0,ho,hL,haf,hK =>
   simp only [List.getElem?_toArray,List.getElem?_cons_zero,Option.some.injEq] at ho;subst ho
   (try dsimp only)
   go_wp2_with fail;exact hK (fun jj=>if jj=9 then Value.func (Fn.func 162) #[] #[Value.pointer (some ⟨w.heap.size+1+1,0,none⟩)] else lx jj) _ ⟨X,f0,f1,f2,(fun _=>rfl),f4,f5,f6,f7,f8,f9,f10⟩
  | 1,ho,hL,haf,hK =>
   simp only [List.getElem?_toArray,List.getElem?_cons_zero,List.getElem?_cons_succ,Option.some.injEq] at ho;subst ho
   (try dsimp only)
   obtain ⟨a0,a1,a2,a3,a4⟩:=Vec.five (f0);go_wp2_with fail;exact hK (fun jj=>if jj=10 then valV k n d x t else lx jj) _ ⟨X,f0,f1,f2,f3,(fun _=>rfl),f5,f6,f7,f8,f9,f10⟩
  | 2,ho,hL,haf,hK =>
   simp only [List.getElem?_toArray,List.getElem?_cons_zero,List.getElem?_cons_succ,Option.some.injEq] at ho;subst ho
   (try dsimp only)
   rw [f4 (haf ⟨1,.data⟩ (by simp) rfl)];go_wp2_with fail;refine (HA wl X).mono ?_;rintro rr w' ⟨rfl,E⟩;go_wp2_with fail;exact hK (fun jj=>if jj=11 then valV ka na da xa ta else if jj=10 then valV k n d x t else lx jj) _ ⟨xt X E,(f0.later E),(f1.later E),(f2.later E),f3,(fun _=>rfl),(fun _=>rfl),f6,f7,f8,(fun h=>(f9 h).later E),(fun h=>(f10 h).later E)⟩
  | 3,ho,hL,haf,hK =>
   simp only [List.getElem?_toArray,List.getElem?_cons_zero,List.getElem?_cons_succ,Option.some.injEq] at ho;subst ho
   (try dsimp only)
   obtain ⟨a0,a1,a2,a3,a4⟩:=Vec.five (f1);go_wp2_with fail;exact hK (fun jj=>if jj=12 then valV k' n' d' x' t' else lx jj) _ ⟨X,f0,f1,f2,f3,f4,f5,(fun _=>rfl),f7,f8,f9,f10⟩
  | 4,ho,hL,haf,hK =>
   simp only [List.getElem?_toArray,List.getElem?_cons_zero,List.getElem?_cons_succ,Option.some.injEq] at ho;subst ho
   (try dsimp only)
   rw [f6 (haf ⟨3,.data⟩ (by simp) rfl)];go_wp2_with fail;refine (HB wl X).mono ?_;rintro rr w' ⟨rfl,E⟩;go_wp2_with fail;exact hK (fun jj=>if jj=13 then valV kb nb db xb tb else if jj=12 then valV k' n' d' x' t' else lx jj) _ ⟨xt X E,(f0.later E),(f1.later E),(f2.later E),f3,f4,f5,(fun _=>rfl),(fun _=>rfl),f8,(fun h=>(f9 h).later E),(fun h=>(f10 h).later E)⟩
  | 5,ho,hL,haf,hK =>
   simp only [List.getElem?_toArray,List.getElem?_cons_zero,List.getElem?_cons_succ,Option.some.injEq] at ho;subst ho
   (try dsimp only)
   rw [f3 (haf ⟨0,.data⟩ (by simp) rfl),f5 (haf ⟨2,.data⟩ (by simp) rfl),f7 (haf ⟨4,.data⟩ (by simp) rfl)];go_wp2_with fail;refine (HO wl _ X (f2 0 _ rfl).1).mono ?_;rintro rr w' ⟨rfl,E⟩;go_wp2_with fail;exact hK (fun jj=>if jj=14 then valV k2 n2 d2 x2 t2 else if jj=9 then Value.func (Fn.func 162) #[] #[Value.pointer (some ⟨w.heap.size+1+1,0,none⟩)] else if jj=11 then valV ka na da xa ta else if jj=13 then valV kb nb db xb tb else lx jj) _ ⟨xt X E,(f0.later E),(f1.later E),(f2.later E),(fun _=>rfl),f4,(fun _=>rfl),f6,(fun _=>rfl),(fun _=>rfl),(fun h=>(f9 h).later E),(fun h=>(f10 h).later E)⟩
  | 6,ho,hL,haf,hK =>
   simp only [List.getElem?_toArray,List.getElem?_cons_zero,List.getElem?_cons_succ,Option.some.injEq] at ho;subst ho
   (try dsimp only)
   rw [f8 (haf ⟨5,.data⟩ (by simp) rfl)];have bx:=f9 hL;obtain ⟨b0,b1,b2,b3,b4⟩:=Vec.five (bx);obtain ⟨fb0,fb1,fb2,fb3,fb4⟩:=Vec.fiveF (bx);have hX:=Ext.setL (b:=w.heap.size+1+1+1) (by omega) [.int .i64 k2,.bool n2,.int .i64 d2,.int .i64 x2,sV t2] 0 X;have hB:=bx.put5 (.int .i64 k2) (.bool n2) (.int .i64 d2) (.int .i64 x2) (sV t2);go_wp2_with fail;exact hK (fun jj=>if jj=14 then valV k2 n2 d2 x2 t2 else lx jj) _ ⟨hX,(Vec.farL (k:=w.heap.size+1+1+1) (by omega) [.int .i64 k2,.bool n2,.int .i64 d2,.int .i64 x2,sV t2] 0 f0),(Vec.farL (k:=w.heap.size+1+1+1) (by omega) [.int .i64 k2,.bool n2,.int .i64 d2,.int .i64 x2,sV t2] 0 f1),(Vec.farL (k:=w.heap.size+1+1+1) (by omega) [.int .i64 k2,.bool n2,.int .i64 d2,.int .i64 x2,sV t2] 0 f2),f3,f4,f5,f6,f7,(fun _=>rfl),(fun h=>by cases h),(fun _=>hB)⟩
  | k+7,ho,_,_,_=>simp at ho
 ·intro L lx wr hall hI;obtain ⟨XR,f0,f1,f2,f3,f4,f5,f6,f7,f8,f9,f10⟩:=hI.out;clear hI;have G0:=f0;have G1:=f1;have G2:=f2;replace f3:=f3 (hall 0 (by simp));replace f4:=f4 (hall 1 (by simp));replace f5:=f5 (hall 2 (by simp));replace f6:=f6 (hall 3 (by simp));replace f7:=f7 (hall 4 (by simp));replace f8:=f8 (hall 5 (by simp));have BR:=f10 (hall 6 (by simp))
  (try dsimp only)
  rw [f3,f4,f5,f6,f7,f8];clear hall f0 f1 f2 f3 f4 f5 f6 f7 f8 f9 f10;obtain ⟨fd0,fd1,fd2,fd3,fd4⟩:=Vec.five (BR);clear BR HA HB HO B0 B1 B2 B3;go_wp2_with fail;exact bodyPost_ret (v:=valV k2 n2 d2 x2 t2) (by simp [results,Tryz.results129,go_sem,fd0,fd1,fd2,fd3,fd4]) rfl ⟨rfl,XR⟩
end Go.Proofs.YtiaakhogigddbaaGreatDoor

