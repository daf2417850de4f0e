/-
  Chapter 4: a good node, of the program: kinds 11.
-/
import Derived.Test.YtnbagcclckekkaaGreatDoorMg18
import Derived.Test.YtnbagcclckekkaaGreatDoorMg16
import Derived.Deep.DeepCutAuto
namespace Go.Proofs.YtnbagcclckekkaaGreatDoor
open Go.RowKit
set_option maxRecDepth 8000 in
set_option maxHeartbeats 4000000 in
theorem goodNI11 (t:List UInt8) (neg:Bool) (d:Int) (x:Int) (r:Int) (c:Int) (rf:Bool) (cf:Bool) (r2:Int) (c2:Int) (rf2:Bool) (cf2:Bool) (m:Int) (w:World) (hl:t.length≤1048576) (d1 : -9223372036854775808≤d) (d2:d≤9223372036854775807) (hT:Tens w) (hE:ErrTab w) (hO:OpTab w) (LW:LibW w) (IT:ItoaC w) :
  Calls Tryz.prog 89 #[ndV 11 t neg d x r c rf cf r2 c2 rf2 cf2 m] w fun e w'=>e=.returned (.bool (goodN 11 t neg d x r c rf cf r2 c2 rf2 cf2 m))∧Ext w w':=by
 obtain ⟨Q,hQ⟩:∃ Q,goodN 11 t neg d x r c rf cf r2 c2 rf2 cf2 m=Q:=⟨_,rfl⟩;have HQ:Hid (goodN 11 t neg d x r c rf cf r2 c2 rf2 cf2 m=Q):=hQ;rw [hQ];clear hQ;have X:=x1 w (.cells #[.int .i64 11,sV t,.bool neg,.int .i64 d,.int .i64 x,.int .i64 r,.int .i64 c,.bool rf,.bool cf,.int .i64 r2,.int .i64 c2,.bool rf2,.bool cf2,.int .i64 m] 59);have VN:=vec_made w [.int .i64 11,sV t,.bool neg,.int .i64 d,.int .i64 x,.int .i64 r,.int .i64 c,.bool rf,.bool cf,.int .i64 r2,.int .i64 c2,.bool rf2,.bool cf2,.int .i64 m] 59;obtain ⟨wa,ha⟩:∃ wa,w.alloc (.cells #[.int .i64 11,sV t,.bool neg,.int .i64 d,.int .i64 x,.int .i64 r,.int .i64 c,.bool rf,.bool cf,.int .i64 r2,.int .i64 c2,.bool rf2,.bool cf2,.int .i64 m] 59)=wa:=⟨_,rfl⟩;change Vec (w.alloc (.cells #[.int .i64 11,sV t,.bool neg,.int .i64 d,.int .i64 x,.int .i64 r,.int .i64 c,.bool rf,.bool cf,.int .i64 r2,.int .i64 c2,.bool rf2,.bool cf2,.int .i64 m] 59)) _ _ at VN;rw [ha] at X VN;have TA:=hT.later X;have EA:=hE.later X;have OA:=hO.later X;have LA:=LW.later X;have hU:True:=by have _:=IT;have _:=hl;have _:=d1;have _:=d2;have _:=TA;have _:=EA;have _:=OA;have _:=LA;trivial
 clear hT hE hO LW hU;by_cases he:neg=false∧d=0∧x=0∧r=0∧c=0∧rf=false∧cf=false∧r2=0∧c2=0∧rf2=false∧cf2=false
 ·obtain ⟨rfl,rfl,rfl,rfl,rfl,rfl,rfl,rfl,rfl,rfl,rfl⟩:=he;go_enter Tryz.func89,Tryz.ntmps89;have CT:=fun W=>toldI 11 t false 0 0 0 0 false false 0 0 false false m W;rw [show toldL 11 t false 0 0 0 0 false false 0 0 false false m=[.int .i64 11,sV t,.bool false,.int .i64 0,.int .i64 0,.int .i64 0,.int .i64 0,.bool false,.bool false,.int .i64 0,.int .i64 0,.bool false,.bool false,.int .i64 m] by simp [toldL]] at CT;have a0:=(VN 0 _ rfl).1;have a1:=(VN 1 _ rfl).1;have a2:=(VN 2 _ rfl).1;have a3:=(VN 3 _ rfl).1;have a4:=(VN 4 _ rfl).1;have a5:=(VN 5 _ rfl).1;have a6:=(VN 6 _ rfl).1;have a7:=(VN 7 _ rfl).1;have a8:=(VN 8 _ rfl).1;have a9:=(VN 9 _ rfl).1;have a10:=(VN 10 _ rfl).1;have a11:=(VN 11 _ rfl).1;have a12:=(VN 12 _ rfl).1;have a13:=(VN 13 _ rfl).1;go_wp2_with fail;go_region_held3 (fun w'=>w'.cell? ⟨w.heap.size,0,none⟩=some (.int .i64 11)∧w'.cell? ⟨w.heap.size,1,none⟩=some (sV t)∧w'.cell? ⟨w.heap.size,2,none⟩=some (.bool false)∧w'.cell? ⟨w.heap.size,3,none⟩=some (.int .i64 0)∧w'.cell? ⟨w.heap.size,4,none⟩=some (.int .i64 0)∧w'.cell? ⟨w.heap.size,5,none⟩=some (.int .i64 0)∧w'.cell? ⟨w.heap.size,6,none⟩=some (.int .i64 0)∧w'.cell? ⟨w.heap.size,7,none⟩=some (.bool false)∧w'.cell? ⟨w.heap.size,8,none⟩=some (.bool false)∧w'.cell? ⟨w.heap.size,9,none⟩=some (.int .i64 0)∧w'.cell? ⟨w.heap.size,10,none⟩=some (.int .i64 0)∧w'.cell? ⟨w.heap.size,11,none⟩=some (.bool false)∧w'.cell? ⟨w.heap.size,12,none⟩=some (.bool false)∧w'.cell? ⟨w.heap.size,13,none⟩=some (.int .i64 m)) (go_keep)
   (first
    | (go_at_call 57;refine (CT _).mono ?_;rintro e w1 ⟨rfl,e1⟩;have Y:=xt (xd (xr _)) e1;have b0:=((VN.later Y) 0 _ rfl).1;have b1:=((VN.later Y) 1 _ rfl).1;have b2:=((VN.later Y) 2 _ rfl).1;have b3:=((VN.later Y) 3 _ rfl).1;have b4:=((VN.later Y) 4 _ rfl).1;have b5:=((VN.later Y) 5 _ rfl).1;have b6:=((VN.later Y) 6 _ rfl).1;have b7:=((VN.later Y) 7 _ rfl).1;have b8:=((VN.later Y) 8 _ rfl).1;have b9:=((VN.later Y) 9 _ rfl).1;have b10:=((VN.later Y) 10 _ rfl).1;have b11:=((VN.later Y) 11 _ rfl).1;have b12:=((VN.later Y) 12 _ rfl).1;have b13:=((VN.later Y) 13 _ rfl).1))
  clear CT a0 a1 a2 a3 a4 a5 a6 a7 a8 a9 a10 a11 a12 a13;obtain ⟨g,hg⟩:∃ g,nameB t=g:=⟨_,rfl⟩;obtain ⟨u,hu⟩:∃ u,t.map upC=u:=⟨_,rfl⟩;obtain ⟨p,hp⟩:∃ p,(t == u)=p:=⟨_,rfl⟩;have HB0:Hid ((g && p && (decide (0≤m) && decide (m≤30)))=Q):=by show _=_;rw [← HQ.out];simp [goodN,hg,hu,hp]
  have CN:Hid (∀ W,Ext w1 W→Calls Tryz.prog 107 #[sV t] W fun e w'=>e=.returned (.bool g)∧Ext W w'):=fun W x=>by rw [← hg];exact nameI t W hl (LA.later (xt Y x)) IT (xt X (xt Y x))
  have CC:Hid (∀ W,Calls Tryz.prog 109 #[sV t] W fun e w'=>e=.returned (sV u)∧Ext W w'):=fun W=>by rw [← hu];exact capsI t W (by omega)
  go_upto_region 21 with fail;clear hg hu IT LA OA EA TA hl;cases g
  ·have HB:Hid (false=Q):=HB0;refine wp_region_letters_g (fun lx:Nat→Value=>{ tmps:=#[ndV 11 t false 0 0 0 0 false false 0 0 false false m,Value.pointer (some ⟨w.heap.size,0,none⟩),lx 2,ndV 11 t false 0 0 0 0 false false 0 0 false false m,ndV 11 t false 0 0 0 0 false false 0 0 false false m,ndV 11 t false 0 0 0 0 false false 0 0 false false m,Value.bool false,Value.pointer (some ⟨w.heap.size,0,none⟩),Value.int .i64 11,Value.bool false,Value.bool false,undef,undef,undef,undef,undef,undef,undef,undef,undef,Value.bool false,Value.bool false,undef,undef,undef,Value.bool false,Value.bool false,undef,undef,undef,Value.bool false,Value.bool false,undef,undef,undef,Value.bool false,Value.bool false,undef,undef,undef,Value.bool false,Value.bool false,undef,undef,undef,undef,undef,undef,undef,undef,Value.bool false,Value.bool false,undef,undef,undef,Value.bool false,Value.bool false,undef,undef,undef,Value.bool true,Value.bool true,lx 62,lx 63,lx 64,lx 65,lx 66,lx 67,lx 68,lx 69,lx 70,lx 71,lx 72,lx 73,lx 74,lx 75,lx 76,lx 77,lx 78,lx 79,lx 80,lx 81,lx 82,undef,undef,undef,undef,undef,undef,undef,undef,undef,undef,undef,undef,undef,undef,undef,undef,undef],defers:=[] }) (fun L lx lw=>Hid (Ext w1 lw∧(L 0=true→lx 62=Value.pointer (some ⟨w.heap.size,1,none⟩))∧(L 1=true→lx 63=sV t)∧(L 2=true→lx 64=Value.bool false)∧(L 3=true→lx 65=Value.bool false)∧(L 4=true→lx 66=undef)∧(L 5=true→lx 67=undef)∧(L 6=true→lx 68=undef)∧(L 7=true→lx 69=undef)∧(L 8=true→lx 70=undef)∧(L 9=true→lx 71=undef)∧(L 10=true→lx 72=Value.bool false)∧(L 11=true→lx 73=Value.bool false)∧(L 12=true→lx 74=undef)∧(L 13=true→lx 75=undef)∧(L 14=true→lx 76=undef)∧(L 15=true→lx 77=Value.bool false)∧(L 16=true→lx 78=Value.bool false)∧(L 17=true→lx 79=undef)∧(L 18=true→lx 80=undef)∧(L 19=true→lx 81=undef)∧(L 20=true→lx 82=Value.bool false)∧(L 21=true→lx 2=Value.bool false))) rfl (by kernel_rfl) (fun jj=>if jj=2 then Value.bool false else undef) rfl ?_ ?_ ?_
   ·refine ⟨xd (xr _),?_,?_,?_,?_,?_,?_,?_,?_,?_,?_,?_,?_,?_,?_,?_,?_,?_,?_,?_,?_,?_,?_⟩ <;> (intro h;cases h)
   ·intro L lx wl i o K hK ho hL haf hI;obtain ⟨X5,f0,f1,f2,f3,f4,f5,f6,f7,f8,f9,f10,f11,f12,f13,f14,f15,f16,f17,f18,f19,f20,f21⟩:=hI.out
    match i,ho,hL,haf,hK with
    | 0,ho,hL,haf,hK =>
     simp only [List.getElem?_toArray,List.getElem?_cons_zero,Option.some.injEq] at ho;subst ho;refine Eq.mpr (if_pos (by rfl)) ?_
     (try dsimp only)
     go_wp2_with fail;exact hK (fun jj=>if jj=62 then Value.pointer (some ⟨w.heap.size,1,none⟩) else lx jj) _ ⟨X5,(fun _=>rfl),f1,f2,f3,f4,f5,f6,f7,f8,f9,f10,f11,f12,f13,f14,f15,f16,f17,f18,f19,f20,f21⟩
    | 1,ho,hL,haf,hK =>
     simp only [List.getElem?_toArray,List.getElem?_cons_zero,List.getElem?_cons_succ,Option.some.injEq] at ho;subst ho;rw [f0 (haf ⟨0,.data⟩ (by simp) rfl)];refine Eq.mpr (if_pos (by rfl)) ?_
     (try dsimp only)
     have c1:=cell_later X5 b1;go_wp2_with fail;exact hK (fun jj=>if jj=63 then sV t else if jj=62 then Value.pointer (some ⟨w.heap.size,1,none⟩) else lx jj) _ ⟨X5,(fun _=>rfl),(fun _=>rfl),f2,f3,f4,f5,f6,f7,f8,f9,f10,f11,f12,f13,f14,f15,f16,f17,f18,f19,f20,f21⟩
    | 2,ho,hL,haf,hK =>
     simp only [List.getElem?_toArray,List.getElem?_cons_zero,List.getElem?_cons_succ,Option.some.injEq] at ho;subst ho;rw [f1 (haf ⟨1,.data⟩ (by simp) rfl)];refine Eq.mpr (if_pos (by rfl)) ?_
     (try dsimp only)
     go_wp2_with fail;refine (CN.out _ X5).mono ?_;rintro rr w' ⟨rfl,E5⟩;go_wp2_with fail;exact hK (fun jj=>if jj=64 then Value.bool false else if jj=63 then sV t else lx jj) _ ⟨(xt X5 E5),f0,(fun _=>rfl),(fun _=>rfl),f3,f4,f5,f6,f7,f8,f9,f10,f11,f12,f13,f14,f15,f16,f17,f18,f19,f20,f21⟩
    | 3,ho,hL,haf,hK =>
     simp only [List.getElem?_toArray,List.getElem?_cons_zero,List.getElem?_cons_succ,Option.some.injEq] at ho;subst ho;rw [f2 (haf ⟨2,.data⟩ (by simp) rfl)];refine Eq.mpr (if_pos (by rfl)) ?_
     (try dsimp only)
     go_wp2_with fail;exact hK (fun jj=>if jj=65 then Value.bool false else if jj=64 then Value.bool false else lx jj) _ ⟨X5,f0,f1,(fun _=>rfl),(fun _=>rfl),f4,f5,f6,f7,f8,f9,f10,f11,f12,f13,f14,f15,f16,f17,f18,f19,f20,f21⟩
    | 4,ho,hL,haf,hK =>
     simp only [List.getElem?_toArray,List.getElem?_cons_zero,List.getElem?_cons_succ,Option.some.injEq] at ho;subst ho;rw [f3 (haf ⟨3,.guard⟩ (by simp) rfl)];refine Eq.mpr (if_neg (fun h=>Bool.noConfusion (show false=true from h))) ?_;exact hK (fun jj=>if jj=66 then undef else if jj=65 then Value.bool false else lx jj) _ ⟨X5,f0,f1,f2,(fun _=>rfl),(fun _=>rfl),f5,f6,f7,f8,f9,f10,f11,f12,f13,f14,f15,f16,f17,f18,f19,f20,f21⟩
    | 5,ho,hL,haf,hK =>
     simp only [List.getElem?_toArray,List.getElem?_cons_zero,List.getElem?_cons_succ,Option.some.injEq] at ho;subst ho;rw [f3 (haf ⟨3,.guard⟩ (by simp) rfl)];refine Eq.mpr (if_neg (fun h=>Bool.noConfusion (show false=true from h))) ?_;exact hK (fun jj=>if jj=67 then undef else if jj=65 then Value.bool false else lx jj) _ ⟨X5,f0,f1,f2,(fun _=>rfl),f4,(fun _=>rfl),f6,f7,f8,f9,f10,f11,f12,f13,f14,f15,f16,f17,f18,f19,f20,f21⟩
    | 6,ho,hL,haf,hK =>
     simp only [List.getElem?_toArray,List.getElem?_cons_zero,List.getElem?_cons_succ,Option.some.injEq] at ho;subst ho;rw [f3 (haf ⟨3,.guard⟩ (by simp) rfl)];refine Eq.mpr (if_neg (fun h=>Bool.noConfusion (show false=true from h))) ?_;exact hK (fun jj=>if jj=68 then undef else if jj=65 then Value.bool false else lx jj) _ ⟨X5,f0,f1,f2,(fun _=>rfl),f4,f5,(fun _=>rfl),f7,f8,f9,f10,f11,f12,f13,f14,f15,f16,f17,f18,f19,f20,f21⟩
    | 7,ho,hL,haf,hK =>
     simp only [List.getElem?_toArray,List.getElem?_cons_zero,List.getElem?_cons_succ,Option.some.injEq] at ho;subst ho;rw [f3 (haf ⟨3,.guard⟩ (by simp) rfl)];refine Eq.mpr (if_neg (fun h=>Bool.noConfusion (show false=true from h))) ?_;exact hK (fun jj=>if jj=69 then undef else if jj=65 then Value.bool false else lx jj) _ ⟨X5,f0,f1,f2,(fun _=>rfl),f4,f5,f6,(fun _=>rfl),f8,f9,f10,f11,f12,f13,f14,f15,f16,f17,f18,f19,f20,f21⟩
    | 8,ho,hL,haf,hK =>
     simp only [List.getElem?_toArray,List.getElem?_cons_zero,List.getElem?_cons_succ,Option.some.injEq] at ho;subst ho;rw [f3 (haf ⟨3,.guard⟩ (by simp) rfl)];refine Eq.mpr (if_neg (fun h=>Bool.noConfusion (show false=true from h))) ?_;exact hK (fun jj=>if jj=70 then undef else if jj=65 then Value.bool false else lx jj) _ ⟨X5,f0,f1,f2,(fun _=>rfl),f4,f5,f6,f7,(fun _=>rfl),f9,f10,f11,f12,f13,f14,f15,f16,f17,f18,f19,f20,f21⟩
    | 9,ho,hL,haf,hK =>
     simp only [List.getElem?_toArray,List.getElem?_cons_zero,List.getElem?_cons_succ,Option.some.injEq] at ho;subst ho;rw [f3 (haf ⟨3,.guard⟩ (by simp) rfl)];refine Eq.mpr (if_neg (fun h=>Bool.noConfusion (show false=true from h))) ?_;exact hK (fun jj=>if jj=71 then undef else if jj=65 then Value.bool false else lx jj) _ ⟨X5,f0,f1,f2,(fun _=>rfl),f4,f5,f6,f7,f8,(fun _=>rfl),f10,f11,f12,f13,f14,f15,f16,f17,f18,f19,f20,f21⟩
    | 10,ho,hL,haf,hK =>
     simp only [List.getElem?_toArray,List.getElem?_cons_zero,List.getElem?_cons_succ,Option.some.injEq] at ho;subst ho;rw [f3 (haf ⟨3,.data⟩ (by simp) rfl)];refine Eq.mpr (if_pos (by rfl)) ?_
     (try dsimp only)
     go_wp2_with fail;exact hK (fun jj=>if jj=72 then Value.bool false else if jj=65 then Value.bool false else lx jj) _ ⟨X5,f0,f1,f2,(fun _=>rfl),f4,f5,f6,f7,f8,f9,(fun _=>rfl),f11,f12,f13,f14,f15,f16,f17,f18,f19,f20,f21⟩
    | 11,ho,hL,haf,hK =>
     simp only [List.getElem?_toArray,List.getElem?_cons_zero,List.getElem?_cons_succ,Option.some.injEq] at ho;subst ho;rw [f10 (haf ⟨10,.data⟩ (by simp) rfl)];refine Eq.mpr (if_pos (by rfl)) ?_
     (try dsimp only)
     go_wp2_with fail;exact hK (fun jj=>if jj=73 then Value.bool false else if jj=72 then Value.bool false else lx jj) _ ⟨X5,f0,f1,f2,f3,f4,f5,f6,f7,f8,f9,(fun _=>rfl),(fun _=>rfl),f12,f13,f14,f15,f16,f17,f18,f19,f20,f21⟩
    | 12,ho,hL,haf,hK =>
     simp only [List.getElem?_toArray,List.getElem?_cons_zero,List.getElem?_cons_succ,Option.some.injEq] at ho;subst ho;rw [f11 (haf ⟨11,.guard⟩ (by simp) rfl)];refine Eq.mpr (if_neg (fun h=>Bool.noConfusion (show false=true from h))) ?_;exact hK (fun jj=>if jj=74 then undef else if jj=73 then Value.bool false else lx jj) _ ⟨X5,f0,f1,f2,f3,f4,f5,f6,f7,f8,f9,f10,(fun _=>rfl),(fun _=>rfl),f13,f14,f15,f16,f17,f18,f19,f20,f21⟩
    | 13,ho,hL,haf,hK =>
     simp only [List.getElem?_toArray,List.getElem?_cons_zero,List.getElem?_cons_succ,Option.some.injEq] at ho;subst ho;rw [f11 (haf ⟨11,.guard⟩ (by simp) rfl)];refine Eq.mpr (if_neg (fun h=>Bool.noConfusion (show false=true from h))) ?_;exact hK (fun jj=>if jj=75 then undef else if jj=73 then Value.bool false else lx jj) _ ⟨X5,f0,f1,f2,f3,f4,f5,f6,f7,f8,f9,f10,(fun _=>rfl),f12,(fun _=>rfl),f14,f15,f16,f17,f18,f19,f20,f21⟩
    | 14,ho,hL,haf,hK =>
     simp only [List.getElem?_toArray,List.getElem?_cons_zero,List.getElem?_cons_succ,Option.some.injEq] at ho;subst ho;rw [f11 (haf ⟨11,.guard⟩ (by simp) rfl)];refine Eq.mpr (if_neg (fun h=>Bool.noConfusion (show false=true from h))) ?_;exact hK (fun jj=>if jj=76 then undef else if jj=73 then Value.bool false else lx jj) _ ⟨X5,f0,f1,f2,f3,f4,f5,f6,f7,f8,f9,f10,(fun _=>rfl),f12,f13,(fun _=>rfl),f15,f16,f17,f18,f19,f20,f21⟩
    | 15,ho,hL,haf,hK =>
     simp only [List.getElem?_toArray,List.getElem?_cons_zero,List.getElem?_cons_succ,Option.some.injEq] at ho;subst ho;rw [f11 (haf ⟨11,.data⟩ (by simp) rfl)];refine Eq.mpr (if_pos (by rfl)) ?_
     (try dsimp only)
     go_wp2_with fail;exact hK (fun jj=>if jj=77 then Value.bool false else if jj=73 then Value.bool false else lx jj) _ ⟨X5,f0,f1,f2,f3,f4,f5,f6,f7,f8,f9,f10,(fun _=>rfl),f12,f13,f14,(fun _=>rfl),f16,f17,f18,f19,f20,f21⟩
    | 16,ho,hL,haf,hK =>
     simp only [List.getElem?_toArray,List.getElem?_cons_zero,List.getElem?_cons_succ,Option.some.injEq] at ho;subst ho;rw [f15 (haf ⟨15,.data⟩ (by simp) rfl)];refine Eq.mpr (if_pos (by rfl)) ?_
     (try dsimp only)
     go_wp2_with fail;exact hK (fun jj=>if jj=78 then Value.bool false else if jj=77 then Value.bool false else lx jj) _ ⟨X5,f0,f1,f2,f3,f4,f5,f6,f7,f8,f9,f10,f11,f12,f13,f14,(fun _=>rfl),(fun _=>rfl),f17,f18,f19,f20,f21⟩
    | 17,ho,hL,haf,hK =>
     simp only [List.getElem?_toArray,List.getElem?_cons_zero,List.getElem?_cons_succ,Option.some.injEq] at ho;subst ho;rw [f16 (haf ⟨16,.guard⟩ (by simp) rfl)];refine Eq.mpr (if_neg (fun h=>Bool.noConfusion (show false=true from h))) ?_;exact hK (fun jj=>if jj=79 then undef else if jj=78 then Value.bool false else lx jj) _ ⟨X5,f0,f1,f2,f3,f4,f5,f6,f7,f8,f9,f10,f11,f12,f13,f14,f15,(fun _=>rfl),(fun _=>rfl),f18,f19,f20,f21⟩
    | 18,ho,hL,haf,hK =>
     simp only [List.getElem?_toArray,List.getElem?_cons_zero,List.getElem?_cons_succ,Option.some.injEq] at ho;subst ho;rw [f16 (haf ⟨16,.guard⟩ (by simp) rfl)];refine Eq.mpr (if_neg (fun h=>Bool.noConfusion (show false=true from h))) ?_;exact hK (fun jj=>if jj=80 then undef else if jj=78 then Value.bool false else lx jj) _ ⟨X5,f0,f1,f2,f3,f4,f5,f6,f7,f8,f9,f10,f11,f12,f13,f14,f15,(fun _=>rfl),f17,(fun _=>rfl),f19,f20,f21⟩
    | 19,ho,hL,haf,hK =>
     simp only [List.getElem?_toArray,List.getElem?_cons_zero,List.getElem?_cons_succ,Option.some.injEq] at ho;subst ho;rw [f16 (haf ⟨16,.guard⟩ (by simp) rfl)];refine Eq.mpr (if_neg (fun h=>Bool.noConfusion (show false=true from h))) ?_;exact hK (fun jj=>if jj=81 then undef else if jj=78 then Value.bool false else lx jj) _ ⟨X5,f0,f1,f2,f3,f4,f5,f6,f7,f8,f9,f10,f11,f12,f13,f14,f15,(fun _=>rfl),f17,f18,(fun _=>rfl),f20,f21⟩
    | 20,ho,hL,haf,hK =>
     simp only [List.getElem?_toArray,List.getElem?_cons_zero,List.getElem?_cons_succ,Option.some.injEq] at ho;subst ho;rw [f16 (haf ⟨16,.data⟩ (by simp) rfl)];refine Eq.mpr (if_pos (by rfl)) ?_
     (try dsimp only)
     go_wp2_with fail;exact hK (fun jj=>if jj=82 then Value.bool false else if jj=78 then Value.bool false else lx jj) _ ⟨X5,f0,f1,f2,f3,f4,f5,f6,f7,f8,f9,f10,f11,f12,f13,f14,f15,(fun _=>rfl),f17,f18,f19,(fun _=>rfl),f21⟩
    | 21,ho,hL,haf,hK =>
     simp only [List.getElem?_toArray,List.getElem?_cons_zero,List.getElem?_cons_succ,Option.some.injEq] at ho;subst ho;rw [f20 (haf ⟨20,.data⟩ (by simp) rfl)];refine Eq.mpr (if_pos (by rfl)) ?_
     (try dsimp only)
     go_wp2_with fail;exact hK (fun jj=>if jj=2 then Value.bool false else if jj=82 then Value.bool false else lx jj) _ ⟨X5,f0,f1,f2,f3,f4,f5,f6,f7,f8,f9,f10,f11,f12,f13,f14,f15,f16,f17,f18,f19,(fun _=>rfl),(fun _=>rfl)⟩
    | k+22,ho,_,_,_=>simp at ho
   ·intro L lx wl hall hI;obtain ⟨X5,f0,f1,f2,f3,f4,f5,f6,f7,f8,f9,f10,f11,f12,f13,f14,f15,f16,f17,f18,f19,f20,f21⟩:=hI.out;have v2:=f21 (hall 21 (by simp));clear hI hall f0 f1 f2 f3 f4 f5 f6 f7 f8 f9 f10 f11 f12 f13 f14 f15 f16 f17 f18 f19 f20 f21
    (try dsimp only)
    rw [v2];go_wp2_with fail;go_ret;exact ⟨ret_bool HB.out,xt (xt X Y) X5⟩
  ·cases p
   ·have HB:Hid (false=Q):=HB0;refine wp_region_letters_g (fun lx:Nat→Value=>{ tmps:=#[ndV 11 t false 0 0 0 0 false false 0 0 false false m,Value.pointer (some ⟨w.heap.size,0,none⟩),lx 2,ndV 11 t false 0 0 0 0 false false 0 0 false false m,ndV 11 t false 0 0 0 0 false false 0 0 false false m,ndV 11 t false 0 0 0 0 false false 0 0 false false m,Value.bool false,Value.pointer (some ⟨w.heap.size,0,none⟩),Value.int .i64 11,Value.bool false,Value.bool false,undef,undef,undef,undef,undef,undef,undef,undef,undef,Value.bool false,Value.bool false,undef,undef,undef,Value.bool false,Value.bool false,undef,undef,undef,Value.bool false,Value.bool false,undef,undef,undef,Value.bool false,Value.bool false,undef,undef,undef,Value.bool false,Value.bool false,undef,undef,undef,undef,undef,undef,undef,undef,Value.bool false,Value.bool false,undef,undef,undef,Value.bool false,Value.bool false,undef,undef,undef,Value.bool true,Value.bool true,lx 62,lx 63,lx 64,lx 65,lx 66,lx 67,lx 68,lx 69,lx 70,lx 71,lx 72,lx 73,lx 74,lx 75,lx 76,lx 77,lx 78,lx 79,lx 80,lx 81,lx 82,undef,undef,undef,undef,undef,undef,undef,undef,undef,undef,undef,undef,undef,undef,undef,undef,undef],defers:=[] }) (fun L lx lw=>Hid (Ext w1 lw∧(L 0=true→lx 62=Value.pointer (some ⟨w.heap.size,1,none⟩))∧(L 1=true→lx 63=sV t)∧(L 2=true→lx 64=Value.bool true)∧(L 3=true→lx 65=Value.bool true)∧(L 4=true→lx 66=Value.pointer (some ⟨w.heap.size,1,none⟩))∧(L 5=true→lx 67=sV t)∧(L 6=true→lx 68=Value.pointer (some ⟨w.heap.size,1,none⟩))∧(L 7=true→lx 69=sV t)∧(L 8=true→lx 70=sV u)∧(L 9=true→lx 71=Value.bool false)∧(L 10=true→lx 72=Value.bool false)∧(L 11=true→lx 73=Value.bool false)∧(L 12=true→lx 74=undef)∧(L 13=true→lx 75=undef)∧(L 14=true→lx 76=undef)∧(L 15=true→lx 77=Value.bool false)∧(L 16=true→lx 78=Value.bool false)∧(L 17=true→lx 79=undef)∧(L 18=true→lx 80=undef)∧(L 19=true→lx 81=undef)∧(L 20=true→lx 82=Value.bool false)∧(L 21=true→lx 2=Value.bool false))) rfl (by kernel_rfl) (fun jj=>if jj=2 then Value.bool false else undef) rfl ?_ ?_ ?_
    ·refine ⟨xd (xr _),?_,?_,?_,?_,?_,?_,?_,?_,?_,?_,?_,?_,?_,?_,?_,?_,?_,?_,?_,?_,?_,?_⟩ <;> (intro h;cases h)
    ·intro L lx wl i o K hK ho hL haf hI;obtain ⟨X5,f0,f1,f2,f3,f4,f5,f6,f7,f8,f9,f10,f11,f12,f13,f14,f15,f16,f17,f18,f19,f20,f21⟩:=hI.out
     match i,ho,hL,haf,hK with
     | 0,ho,hL,haf,hK =>
      simp only [List.getElem?_toArray,List.getElem?_cons_zero,Option.some.injEq] at ho;subst ho;refine Eq.mpr (if_pos (by rfl)) ?_
      (try dsimp only)
      go_wp2_with fail;exact hK (fun jj=>if jj=62 then Value.pointer (some ⟨w.heap.size,1,none⟩) else lx jj) _ ⟨X5,(fun _=>rfl),f1,f2,f3,f4,f5,f6,f7,f8,f9,f10,f11,f12,f13,f14,f15,f16,f17,f18,f19,f20,f21⟩
     | 1,ho,hL,haf,hK =>
      simp only [List.getElem?_toArray,List.getElem?_cons_zero,List.getElem?_cons_succ,Option.some.injEq] at ho;subst ho;rw [f0 (haf ⟨0,.data⟩ (by simp) rfl)];refine Eq.mpr (if_pos (by rfl)) ?_
      (try dsimp only)
      have c1:=cell_later X5 b1;go_wp2_with fail;exact hK (fun jj=>if jj=63 then sV t else if jj=62 then Value.pointer (some ⟨w.heap.size,1,none⟩) else lx jj) _ ⟨X5,(fun _=>rfl),(fun _=>rfl),f2,f3,f4,f5,f6,f7,f8,f9,f10,f11,f12,f13,f14,f15,f16,f17,f18,f19,f20,f21⟩
     | 2,ho,hL,haf,hK =>
      simp only [List.getElem?_toArray,List.getElem?_cons_zero,List.getElem?_cons_succ,Option.some.injEq] at ho;subst ho;rw [f1 (haf ⟨1,.data⟩ (by simp) rfl)];refine Eq.mpr (if_pos (by rfl)) ?_
      (try dsimp only)
      go_wp2_with fail;refine (CN.out _ X5).mono ?_;rintro rr w' ⟨rfl,E5⟩;go_wp2_with fail;exact hK (fun jj=>if jj=64 then Value.bool true else if jj=63 then sV t else lx jj) _ ⟨(xt X5 E5),f0,(fun _=>rfl),(fun _=>rfl),f3,f4,f5,f6,f7,f8,f9,f10,f11,f12,f13,f14,f15,f16,f17,f18,f19,f20,f21⟩
     | 3,ho,hL,haf,hK =>
      simp only [List.getElem?_toArray,List.getElem?_cons_zero,List.getElem?_cons_succ,Option.some.injEq] at ho;subst ho;rw [f2 (haf ⟨2,.data⟩ (by simp) rfl)];refine Eq.mpr (if_pos (by rfl)) ?_
      (try dsimp only)
      go_wp2_with fail;exact hK (fun jj=>if jj=65 then Value.bool true else if jj=64 then Value.bool true else lx jj) _ ⟨X5,f0,f1,(fun _=>rfl),(fun _=>rfl),f4,f5,f6,f7,f8,f9,f10,f11,f12,f13,f14,f15,f16,f17,f18,f19,f20,f21⟩
     | 4,ho,hL,haf,hK =>
      simp only [List.getElem?_toArray,List.getElem?_cons_zero,List.getElem?_cons_succ,Option.some.injEq] at ho;subst ho;rw [f3 (haf ⟨3,.guard⟩ (by simp) rfl)];refine Eq.mpr (if_pos (by rfl)) ?_
      (try dsimp only)
      go_wp2_with fail;exact hK (fun jj=>if jj=66 then Value.pointer (some ⟨w.heap.size,1,none⟩) else if jj=65 then Value.bool true else lx jj) _ ⟨X5,f0,f1,f2,(fun _=>rfl),(fun _=>rfl),f5,f6,f7,f8,f9,f10,f11,f12,f13,f14,f15,f16,f17,f18,f19,f20,f21⟩
     | 5,ho,hL,haf,hK =>
      simp only [List.getElem?_toArray,List.getElem?_cons_zero,List.getElem?_cons_succ,Option.some.injEq] at ho;subst ho;rw [f4 (haf ⟨4,.data⟩ (by simp) rfl),f3 (haf ⟨3,.guard⟩ (by simp) rfl)];refine Eq.mpr (if_pos (by rfl)) ?_
      (try dsimp only)
      have c1:=cell_later X5 b1;go_wp2_with fail;exact hK (fun jj=>if jj=67 then sV t else if jj=66 then Value.pointer (some ⟨w.heap.size,1,none⟩) else if jj=65 then Value.bool true else lx jj) _ ⟨X5,f0,f1,f2,(fun _=>rfl),(fun _=>rfl),(fun _=>rfl),f6,f7,f8,f9,f10,f11,f12,f13,f14,f15,f16,f17,f18,f19,f20,f21⟩
     | 6,ho,hL,haf,hK =>
      simp only [List.getElem?_toArray,List.getElem?_cons_zero,List.getElem?_cons_succ,Option.some.injEq] at ho;subst ho;rw [f3 (haf ⟨3,.guard⟩ (by simp) rfl)];refine Eq.mpr (if_pos (by rfl)) ?_
      (try dsimp only)
      go_wp2_with fail;exact hK (fun jj=>if jj=68 then Value.pointer (some ⟨w.heap.size,1,none⟩) else if jj=65 then Value.bool true else lx jj) _ ⟨X5,f0,f1,f2,(fun _=>rfl),f4,f5,(fun _=>rfl),f7,f8,f9,f10,f11,f12,f13,f14,f15,f16,f17,f18,f19,f20,f21⟩
     | 7,ho,hL,haf,hK =>
      simp only [List.getElem?_toArray,List.getElem?_cons_zero,List.getElem?_cons_succ,Option.some.injEq] at ho;subst ho;rw [f6 (haf ⟨6,.data⟩ (by simp) rfl),f3 (haf ⟨3,.guard⟩ (by simp) rfl)];refine Eq.mpr (if_pos (by rfl)) ?_
      (try dsimp only)
      have c1:=cell_later X5 b1;go_wp2_with fail;exact hK (fun jj=>if jj=69 then sV t else if jj=68 then Value.pointer (some ⟨w.heap.size,1,none⟩) else if jj=65 then Value.bool true else lx jj) _ ⟨X5,f0,f1,f2,(fun _=>rfl),f4,f5,(fun _=>rfl),(fun _=>rfl),f8,f9,f10,f11,f12,f13,f14,f15,f16,f17,f18,f19,f20,f21⟩
     | 8,ho,hL,haf,hK =>
      simp only [List.getElem?_toArray,List.getElem?_cons_zero,List.getElem?_cons_succ,Option.some.injEq] at ho;subst ho;rw [f7 (haf ⟨7,.data⟩ (by simp) rfl),f3 (haf ⟨3,.guard⟩ (by simp) rfl)];refine Eq.mpr (if_pos (by rfl)) ?_
      (try dsimp only)
      go_wp2_with fail;refine (CC.out _).mono ?_;rintro rr w' ⟨rfl,E5⟩;go_wp2_with fail;exact hK (fun jj=>if jj=70 then sV u else if jj=69 then sV t else if jj=65 then Value.bool true else lx jj) _ ⟨(xt X5 E5),f0,f1,f2,(fun _=>rfl),f4,f5,f6,(fun _=>rfl),(fun _=>rfl),f9,f10,f11,f12,f13,f14,f15,f16,f17,f18,f19,f20,f21⟩
     | 9,ho,hL,haf,hK =>
      simp only [List.getElem?_toArray,List.getElem?_cons_zero,List.getElem?_cons_succ,Option.some.injEq] at ho;subst ho;rw [f5 (haf ⟨5,.data⟩ (by simp) rfl),f8 (haf ⟨8,.data⟩ (by simp) rfl),f3 (haf ⟨3,.guard⟩ (by simp) rfl)];refine Eq.mpr (if_pos (by rfl)) ?_
      (try dsimp only)
      go_wp2_with fail;exact hK (fun jj=>if jj=71 then Value.bool false else if jj=67 then sV t else if jj=70 then sV u else if jj=65 then Value.bool true else lx jj) _ ⟨X5,f0,f1,f2,(fun _=>rfl),f4,(fun _=>rfl),f6,f7,(fun _=>rfl),(fun _=>rfl),f10,f11,f12,f13,f14,f15,f16,f17,f18,f19,f20,f21⟩
     | 10,ho,hL,haf,hK =>
      simp only [List.getElem?_toArray,List.getElem?_cons_zero,List.getElem?_cons_succ,Option.some.injEq] at ho;subst ho;rw [f3 (haf ⟨3,.data⟩ (by simp) rfl),f9 (haf ⟨9,.data⟩ (by simp) rfl)];refine Eq.mpr (if_pos (by rfl)) ?_
      (try dsimp only)
      go_wp2_with fail;exact hK (fun jj=>if jj=72 then Value.bool false else if jj=65 then Value.bool true else if jj=71 then Value.bool false else lx jj) _ ⟨X5,f0,f1,f2,(fun _=>rfl),f4,f5,f6,f7,f8,(fun _=>rfl),(fun _=>rfl),f11,f12,f13,f14,f15,f16,f17,f18,f19,f20,f21⟩
     | 11,ho,hL,haf,hK =>
      simp only [List.getElem?_toArray,List.getElem?_cons_zero,List.getElem?_cons_succ,Option.some.injEq] at ho;subst ho;rw [f10 (haf ⟨10,.data⟩ (by simp) rfl)];refine Eq.mpr (if_pos (by rfl)) ?_
      (try dsimp only)
      go_wp2_with fail;exact hK (fun jj=>if jj=73 then Value.bool false else if jj=72 then Value.bool false else lx jj) _ ⟨X5,f0,f1,f2,f3,f4,f5,f6,f7,f8,f9,(fun _=>rfl),(fun _=>rfl),f12,f13,f14,f15,f16,f17,f18,f19,f20,f21⟩
     | 12,ho,hL,haf,hK =>
      simp only [List.getElem?_toArray,List.getElem?_cons_zero,List.getElem?_cons_succ,Option.some.injEq] at ho;subst ho;rw [f11 (haf ⟨11,.guard⟩ (by simp) rfl)];refine Eq.mpr (if_neg (fun h=>Bool.noConfusion (show false=true from h))) ?_;exact hK (fun jj=>if jj=74 then undef else if jj=73 then Value.bool false else lx jj) _ ⟨X5,f0,f1,f2,f3,f4,f5,f6,f7,f8,f9,f10,(fun _=>rfl),(fun _=>rfl),f13,f14,f15,f16,f17,f18,f19,f20,f21⟩
     | 13,ho,hL,haf,hK =>
      simp only [List.getElem?_toArray,List.getElem?_cons_zero,List.getElem?_cons_succ,Option.some.injEq] at ho;subst ho;rw [f11 (haf ⟨11,.guard⟩ (by simp) rfl)];refine Eq.mpr (if_neg (fun h=>Bool.noConfusion (show false=true from h))) ?_;exact hK (fun jj=>if jj=75 then undef else if jj=73 then Value.bool false else lx jj) _ ⟨X5,f0,f1,f2,f3,f4,f5,f6,f7,f8,f9,f10,(fun _=>rfl),f12,(fun _=>rfl),f14,f15,f16,f17,f18,f19,f20,f21⟩
     | 14,ho,hL,haf,hK =>
      simp only [List.getElem?_toArray,List.getElem?_cons_zero,List.getElem?_cons_succ,Option.some.injEq] at ho;subst ho;rw [f11 (haf ⟨11,.guard⟩ (by simp) rfl)];refine Eq.mpr (if_neg (fun h=>Bool.noConfusion (show false=true from h))) ?_;exact hK (fun jj=>if jj=76 then undef else if jj=73 then Value.bool false else lx jj) _ ⟨X5,f0,f1,f2,f3,f4,f5,f6,f7,f8,f9,f10,(fun _=>rfl),f12,f13,(fun _=>rfl),f15,f16,f17,f18,f19,f20,f21⟩
     | 15,ho,hL,haf,hK =>
      simp only [List.getElem?_toArray,List.getElem?_cons_zero,List.getElem?_cons_succ,Option.some.injEq] at ho;subst ho;rw [f11 (haf ⟨11,.data⟩ (by simp) rfl)];refine Eq.mpr (if_pos (by rfl)) ?_
      (try dsimp only)
      go_wp2_with fail;exact hK (fun jj=>if jj=77 then Value.bool false else if jj=73 then Value.bool false else lx jj) _ ⟨X5,f0,f1,f2,f3,f4,f5,f6,f7,f8,f9,f10,(fun _=>rfl),f12,f13,f14,(fun _=>rfl),f16,f17,f18,f19,f20,f21⟩
     | 16,ho,hL,haf,hK =>
      simp only [List.getElem?_toArray,List.getElem?_cons_zero,List.getElem?_cons_succ,Option.some.injEq] at ho;subst ho;rw [f15 (haf ⟨15,.data⟩ (by simp) rfl)];refine Eq.mpr (if_pos (by rfl)) ?_
      (try dsimp only)
      go_wp2_with fail;exact hK (fun jj=>if jj=78 then Value.bool false else if jj=77 then Value.bool false else lx jj) _ ⟨X5,f0,f1,f2,f3,f4,f5,f6,f7,f8,f9,f10,f11,f12,f13,f14,(fun _=>rfl),(fun _=>rfl),f17,f18,f19,f20,f21⟩
     | 17,ho,hL,haf,hK =>
      simp only [List.getElem?_toArray,List.getElem?_cons_zero,List.getElem?_cons_succ,Option.some.injEq] at ho;subst ho;rw [f16 (haf ⟨16,.guard⟩ (by simp) rfl)];refine Eq.mpr (if_neg (fun h=>Bool.noConfusion (show false=true from h))) ?_;exact hK (fun jj=>if jj=79 then undef else if jj=78 then Value.bool false else lx jj) _ ⟨X5,f0,f1,f2,f3,f4,f5,f6,f7,f8,f9,f10,f11,f12,f13,f14,f15,(fun _=>rfl),(fun _=>rfl),f18,f19,f20,f21⟩
     | 18,ho,hL,haf,hK =>
      simp only [List.getElem?_toArray,List.getElem?_cons_zero,List.getElem?_cons_succ,Option.some.injEq] at ho;subst ho;rw [f16 (haf ⟨16,.guard⟩ (by simp) rfl)];refine Eq.mpr (if_neg (fun h=>Bool.noConfusion (show false=true from h))) ?_;exact hK (fun jj=>if jj=80 then undef else if jj=78 then Value.bool false else lx jj) _ ⟨X5,f0,f1,f2,f3,f4,f5,f6,f7,f8,f9,f10,f11,f12,f13,f14,f15,(fun _=>rfl),f17,(fun _=>rfl),f19,f20,f21⟩
     | 19,ho,hL,haf,hK =>
      simp only [List.getElem?_toArray,List.getElem?_cons_zero,List.getElem?_cons_succ,Option.some.injEq] at ho;subst ho;rw [f16 (haf ⟨16,.guard⟩ (by simp) rfl)];refine Eq.mpr (if_neg (fun h=>Bool.noConfusion (show false=true from h))) ?_;exact hK (fun jj=>if jj=81 then undef else if jj=78 then Value.bool false else lx jj) _ ⟨X5,f0,f1,f2,f3,f4,f5,f6,f7,f8,f9,f10,f11,f12,f13,f14,f15,(fun _=>rfl),f17,f18,(fun _=>rfl),f20,f21⟩
     | 20,ho,hL,haf,hK =>
      simp only [List.getElem?_toArray,List.getElem?_cons_zero,List.getElem?_cons_succ,Option.some.injEq] at ho;subst ho;rw [f16 (haf ⟨16,.data⟩ (by simp) rfl)];refine Eq.mpr (if_pos (by rfl)) ?_
      (try dsimp only)
      go_wp2_with fail;exact hK (fun jj=>if jj=82 then Value.bool false else if jj=78 then Value.bool false else lx jj) _ ⟨X5,f0,f1,f2,f3,f4,f5,f6,f7,f8,f9,f10,f11,f12,f13,f14,f15,(fun _=>rfl),f17,f18,f19,(fun _=>rfl),f21⟩
     | 21,ho,hL,haf,hK =>
      simp only [List.getElem?_toArray,List.getElem?_cons_zero,List.getElem?_cons_succ,Option.some.injEq] at ho;subst ho;rw [f20 (haf ⟨20,.data⟩ (by simp) rfl)];refine Eq.mpr (if_pos (by rfl)) ?_
      (try dsimp only)
      go_wp2_with fail;exact hK (fun jj=>if jj=2 then Value.bool false else if jj=82 then Value.bool false else lx jj) _ ⟨X5,f0,f1,f2,f3,f4,f5,f6,f7,f8,f9,f10,f11,f12,f13,f14,f15,f16,f17,f18,f19,(fun _=>rfl),(fun _=>rfl)⟩
     | k+22,ho,_,_,_=>simp at ho
    ·intro L lx wl hall hI;obtain ⟨X5,f0,f1,f2,f3,f4,f5,f6,f7,f8,f9,f10,f11,f12,f13,f14,f15,f16,f17,f18,f19,f20,f21⟩:=hI.out;have v2:=f21 (hall 21 (by simp));clear hI hall f0 f1 f2 f3 f4 f5 f6 f7 f8 f9 f10 f11 f12 f13 f14 f15 f16 f17 f18 f19 f20 f21
     (try dsimp only)
     rw [v2];go_wp2_with fail;go_ret;exact ⟨ret_bool HB.out,xt (xt X Y) X5⟩
   ·by_cases q1:0≤m
    ·have g1:decide (0≤m)=true:=decide_eq_true q1;by_cases q2:m≤30
     ·have g2:decide (m≤30)=true:=decide_eq_true q2;have HB:Hid (true=Q):=(by show _=_;rw [← HB0.out,g1,g2];rfl);refine wp_region_letters_g (fun lx:Nat→Value=>{ tmps:=#[ndV 11 t false 0 0 0 0 false false 0 0 false false m,Value.pointer (some ⟨w.heap.size,0,none⟩),lx 2,ndV 11 t false 0 0 0 0 false false 0 0 false false m,ndV 11 t false 0 0 0 0 false false 0 0 false false m,ndV 11 t false 0 0 0 0 false false 0 0 false false m,Value.bool false,Value.pointer (some ⟨w.heap.size,0,none⟩),Value.int .i64 11,Value.bool false,Value.bool false,undef,undef,undef,undef,undef,undef,undef,undef,undef,Value.bool false,Value.bool false,undef,undef,undef,Value.bool false,Value.bool false,undef,undef,undef,Value.bool false,Value.bool false,undef,undef,undef,Value.bool false,Value.bool false,undef,undef,undef,Value.bool false,Value.bool false,undef,undef,undef,undef,undef,undef,undef,undef,Value.bool false,Value.bool false,undef,undef,undef,Value.bool false,Value.bool false,undef,undef,undef,Value.bool true,Value.bool true,lx 62,lx 63,lx 64,lx 65,lx 66,lx 67,lx 68,lx 69,lx 70,lx 71,lx 72,lx 73,lx 74,lx 75,lx 76,lx 77,lx 78,lx 79,lx 80,lx 81,lx 82,undef,undef,undef,undef,undef,undef,undef,undef,undef,undef,undef,undef,undef,undef,undef,undef,undef],defers:=[] }) (fun L lx lw=>Hid (Ext w1 lw∧(L 0=true→lx 62=Value.pointer (some ⟨w.heap.size,1,none⟩))∧(L 1=true→lx 63=sV t)∧(L 2=true→lx 64=Value.bool true)∧(L 3=true→lx 65=Value.bool true)∧(L 4=true→lx 66=Value.pointer (some ⟨w.heap.size,1,none⟩))∧(L 5=true→lx 67=sV t)∧(L 6=true→lx 68=Value.pointer (some ⟨w.heap.size,1,none⟩))∧(L 7=true→lx 69=sV t)∧(L 8=true→lx 70=sV u)∧(L 9=true→lx 71=Value.bool true)∧(L 10=true→lx 72=Value.bool true)∧(L 11=true→lx 73=Value.bool true)∧(L 12=true→lx 74=Value.pointer (some ⟨w.heap.size,13,none⟩))∧(L 13=true→lx 75=Value.int .i64 m)∧(L 14=true→lx 76=Value.bool true)∧(L 15=true→lx 77=Value.bool true)∧(L 16=true→lx 78=Value.bool true)∧(L 17=true→lx 79=Value.pointer (some ⟨w.heap.size,13,none⟩))∧(L 18=true→lx 80=Value.int .i64 m)∧(L 19=true→lx 81=Value.bool true)∧(L 20=true→lx 82=Value.bool true)∧(L 21=true→lx 2=Value.bool true))) rfl (by kernel_rfl) (fun jj=>if jj=2 then Value.bool false else undef) rfl ?_ ?_ ?_
      ·refine ⟨xd (xr _),?_,?_,?_,?_,?_,?_,?_,?_,?_,?_,?_,?_,?_,?_,?_,?_,?_,?_,?_,?_,?_,?_⟩ <;> (intro h;cases h)
      ·intro L lx wl i o K hK ho hL haf hI;obtain ⟨X5,f0,f1,f2,f3,f4,f5,f6,f7,f8,f9,f10,f11,f12,f13,f14,f15,f16,f17,f18,f19,f20,f21⟩:=hI.out
       match i,ho,hL,haf,hK with
       | 0,ho,hL,haf,hK =>
        simp only [List.getElem?_toArray,List.getElem?_cons_zero,Option.some.injEq] at ho;subst ho;refine Eq.mpr (if_pos (by rfl)) ?_
        (try dsimp only)
        go_wp2_with fail;exact hK (fun jj=>if jj=62 then Value.pointer (some ⟨w.heap.size,1,none⟩) else lx jj) _ ⟨X5,(fun _=>rfl),f1,f2,f3,f4,f5,f6,f7,f8,f9,f10,f11,f12,f13,f14,f15,f16,f17,f18,f19,f20,f21⟩
       | 1,ho,hL,haf,hK =>
        simp only [List.getElem?_toArray,List.getElem?_cons_zero,List.getElem?_cons_succ,Option.some.injEq] at ho;subst ho;rw [f0 (haf ⟨0,.data⟩ (by simp) rfl)];refine Eq.mpr (if_pos (by rfl)) ?_
        (try dsimp only)
        have c1:=cell_later X5 b1;go_wp2_with fail;exact hK (fun jj=>if jj=63 then sV t else if jj=62 then Value.pointer (some ⟨w.heap.size,1,none⟩) else lx jj) _ ⟨X5,(fun _=>rfl),(fun _=>rfl),f2,f3,f4,f5,f6,f7,f8,f9,f10,f11,f12,f13,f14,f15,f16,f17,f18,f19,f20,f21⟩
       | 2,ho,hL,haf,hK =>
        simp only [List.getElem?_toArray,List.getElem?_cons_zero,List.getElem?_cons_succ,Option.some.injEq] at ho;subst ho;rw [f1 (haf ⟨1,.data⟩ (by simp) rfl)];refine Eq.mpr (if_pos (by rfl)) ?_
        (try dsimp only)
        go_wp2_with fail;refine (CN.out _ X5).mono ?_;rintro rr w' ⟨rfl,E5⟩;go_wp2_with fail;exact hK (fun jj=>if jj=64 then Value.bool true else if jj=63 then sV t else lx jj) _ ⟨(xt X5 E5),f0,(fun _=>rfl),(fun _=>rfl),f3,f4,f5,f6,f7,f8,f9,f10,f11,f12,f13,f14,f15,f16,f17,f18,f19,f20,f21⟩
       | 3,ho,hL,haf,hK =>
        simp only [List.getElem?_toArray,List.getElem?_cons_zero,List.getElem?_cons_succ,Option.some.injEq] at ho;subst ho;rw [f2 (haf ⟨2,.data⟩ (by simp) rfl)];refine Eq.mpr (if_pos (by rfl)) ?_
        (try dsimp only)
        go_wp2_with fail;exact hK (fun jj=>if jj=65 then Value.bool true else if jj=64 then Value.bool true else lx jj) _ ⟨X5,f0,f1,(fun _=>rfl),(fun _=>rfl),f4,f5,f6,f7,f8,f9,f10,f11,f12,f13,f14,f15,f16,f17,f18,f19,f20,f21⟩
       | 4,ho,hL,haf,hK =>
        simp only [List.getElem?_toArray,List.getElem?_cons_zero,List.getElem?_cons_succ,Option.some.injEq] at ho;subst ho;rw [f3 (haf ⟨3,.guard⟩ (by simp) rfl)];refine Eq.mpr (if_pos (by rfl)) ?_
        (try dsimp only)
        go_wp2_with fail;exact hK (fun jj=>if jj=66 then Value.pointer (some ⟨w.heap.size,1,none⟩) else if jj=65 then Value.bool true else lx jj) _ ⟨X5,f0,f1,f2,(fun _=>rfl),(fun _=>rfl),f5,f6,f7,f8,f9,f10,f11,f12,f13,f14,f15,f16,f17,f18,f19,f20,f21⟩
       | 5,ho,hL,haf,hK =>
        simp only [List.getElem?_toArray,List.getElem?_cons_zero,List.getElem?_cons_succ,Option.some.injEq] at ho;subst ho;rw [f4 (haf ⟨4,.data⟩ (by simp) rfl),f3 (haf ⟨3,.guard⟩ (by simp) rfl)];refine Eq.mpr (if_pos (by rfl)) ?_
        (try dsimp only)
        have c1:=cell_later X5 b1;go_wp2_with fail;exact hK (fun jj=>if jj=67 then sV t else if jj=66 then Value.pointer (some ⟨w.heap.size,1,none⟩) else if jj=65 then Value.bool true else lx jj) _ ⟨X5,f0,f1,f2,(fun _=>rfl),(fun _=>rfl),(fun _=>rfl),f6,f7,f8,f9,f10,f11,f12,f13,f14,f15,f16,f17,f18,f19,f20,f21⟩
       | 6,ho,hL,haf,hK =>
        simp only [List.getElem?_toArray,List.getElem?_cons_zero,List.getElem?_cons_succ,Option.some.injEq] at ho;subst ho;rw [f3 (haf ⟨3,.guard⟩ (by simp) rfl)];refine Eq.mpr (if_pos (by rfl)) ?_
        (try dsimp only)
        go_wp2_with fail;exact hK (fun jj=>if jj=68 then Value.pointer (some ⟨w.heap.size,1,none⟩) else if jj=65 then Value.bool true else lx jj) _ ⟨X5,f0,f1,f2,(fun _=>rfl),f4,f5,(fun _=>rfl),f7,f8,f9,f10,f11,f12,f13,f14,f15,f16,f17,f18,f19,f20,f21⟩
       | 7,ho,hL,haf,hK =>
        simp only [List.getElem?_toArray,List.getElem?_cons_zero,List.getElem?_cons_succ,Option.some.injEq] at ho;subst ho;rw [f6 (haf ⟨6,.data⟩ (by simp) rfl),f3 (haf ⟨3,.guard⟩ (by simp) rfl)];refine Eq.mpr (if_pos (by rfl)) ?_
        (try dsimp only)
        have c1:=cell_later X5 b1;go_wp2_with fail;exact hK (fun jj=>if jj=69 then sV t else if jj=68 then Value.pointer (some ⟨w.heap.size,1,none⟩) else if jj=65 then Value.bool true else lx jj) _ ⟨X5,f0,f1,f2,(fun _=>rfl),f4,f5,(fun _=>rfl),(fun _=>rfl),f8,f9,f10,f11,f12,f13,f14,f15,f16,f17,f18,f19,f20,f21⟩
       | 8,ho,hL,haf,hK =>
        simp only [List.getElem?_toArray,List.getElem?_cons_zero,List.getElem?_cons_succ,Option.some.injEq] at ho;subst ho;rw [f7 (haf ⟨7,.data⟩ (by simp) rfl),f3 (haf ⟨3,.guard⟩ (by simp) rfl)];refine Eq.mpr (if_pos (by rfl)) ?_
        (try dsimp only)
        go_wp2_with fail;refine (CC.out _).mono ?_;rintro rr w' ⟨rfl,E5⟩;go_wp2_with fail;exact hK (fun jj=>if jj=70 then sV u else if jj=69 then sV t else if jj=65 then Value.bool true else lx jj) _ ⟨(xt X5 E5),f0,f1,f2,(fun _=>rfl),f4,f5,f6,(fun _=>rfl),(fun _=>rfl),f9,f10,f11,f12,f13,f14,f15,f16,f17,f18,f19,f20,f21⟩
       | 9,ho,hL,haf,hK =>
        simp only [List.getElem?_toArray,List.getElem?_cons_zero,List.getElem?_cons_succ,Option.some.injEq] at ho;subst ho;rw [f5 (haf ⟨5,.data⟩ (by simp) rfl),f8 (haf ⟨8,.data⟩ (by simp) rfl),f3 (haf ⟨3,.guard⟩ (by simp) rfl)];refine Eq.mpr (if_pos (by rfl)) ?_
        (try dsimp only)
        go_wp2_with fail;exact hK (fun jj=>if jj=71 then Value.bool true else if jj=67 then sV t else if jj=70 then sV u else if jj=65 then Value.bool true else lx jj) _ ⟨X5,f0,f1,f2,(fun _=>rfl),f4,(fun _=>rfl),f6,f7,(fun _=>rfl),(fun _=>rfl),f10,f11,f12,f13,f14,f15,f16,f17,f18,f19,f20,f21⟩
       | 10,ho,hL,haf,hK =>
        simp only [List.getElem?_toArray,List.getElem?_cons_zero,List.getElem?_cons_succ,Option.some.injEq] at ho;subst ho;rw [f3 (haf ⟨3,.data⟩ (by simp) rfl),f9 (haf ⟨9,.data⟩ (by simp) rfl)];refine Eq.mpr (if_pos (by rfl)) ?_
        (try dsimp only)
        go_wp2_with fail;exact hK (fun jj=>if jj=72 then Value.bool true else if jj=65 then Value.bool true else if jj=71 then Value.bool true else lx jj) _ ⟨X5,f0,f1,f2,(fun _=>rfl),f4,f5,f6,f7,f8,(fun _=>rfl),(fun _=>rfl),f11,f12,f13,f14,f15,f16,f17,f18,f19,f20,f21⟩
       | 11,ho,hL,haf,hK =>
        simp only [List.getElem?_toArray,List.getElem?_cons_zero,List.getElem?_cons_succ,Option.some.injEq] at ho;subst ho;rw [f10 (haf ⟨10,.data⟩ (by simp) rfl)];refine Eq.mpr (if_pos (by rfl)) ?_
        (try dsimp only)
        go_wp2_with fail;exact hK (fun jj=>if jj=73 then Value.bool true else if jj=72 then Value.bool true else lx jj) _ ⟨X5,f0,f1,f2,f3,f4,f5,f6,f7,f8,f9,(fun _=>rfl),(fun _=>rfl),f12,f13,f14,f15,f16,f17,f18,f19,f20,f21⟩
       | 12,ho,hL,haf,hK =>
        simp only [List.getElem?_toArray,List.getElem?_cons_zero,List.getElem?_cons_succ,Option.some.injEq] at ho;subst ho;rw [f11 (haf ⟨11,.guard⟩ (by simp) rfl)];refine Eq.mpr (if_pos (by rfl)) ?_
        (try dsimp only)
        go_wp2_with fail;exact hK (fun jj=>if jj=74 then Value.pointer (some ⟨w.heap.size,13,none⟩) else if jj=73 then Value.bool true else lx jj) _ ⟨X5,f0,f1,f2,f3,f4,f5,f6,f7,f8,f9,f10,(fun _=>rfl),(fun _=>rfl),f13,f14,f15,f16,f17,f18,f19,f20,f21⟩
       | 13,ho,hL,haf,hK =>
        simp only [List.getElem?_toArray,List.getElem?_cons_zero,List.getElem?_cons_succ,Option.some.injEq] at ho;subst ho;rw [f12 (haf ⟨12,.data⟩ (by simp) rfl),f11 (haf ⟨11,.guard⟩ (by simp) rfl)];refine Eq.mpr (if_pos (by rfl)) ?_
        (try dsimp only)
        have c13:=cell_later X5 b13;go_wp2_with fail;exact hK (fun jj=>if jj=75 then Value.int .i64 m else if jj=74 then Value.pointer (some ⟨w.heap.size,13,none⟩) else if jj=73 then Value.bool true else lx jj) _ ⟨X5,f0,f1,f2,f3,f4,f5,f6,f7,f8,f9,f10,(fun _=>rfl),(fun _=>rfl),(fun _=>rfl),f14,f15,f16,f17,f18,f19,f20,f21⟩
       | 14,ho,hL,haf,hK =>
        simp only [List.getElem?_toArray,List.getElem?_cons_zero,List.getElem?_cons_succ,Option.some.injEq] at ho;subst ho;rw [f13 (haf ⟨13,.data⟩ (by simp) rfl),f11 (haf ⟨11,.guard⟩ (by simp) rfl)];refine Eq.mpr (if_pos (by rfl)) ?_
        (try dsimp only)
        go_wp2_with fail;exact hK (fun jj=>if jj=76 then Value.bool true else if jj=75 then Value.int .i64 m else if jj=73 then Value.bool true else lx jj) _ ⟨X5,f0,f1,f2,f3,f4,f5,f6,f7,f8,f9,f10,(fun _=>rfl),f12,(fun _=>rfl),(fun _=>rfl),f15,f16,f17,f18,f19,f20,f21⟩
       | 15,ho,hL,haf,hK =>
        simp only [List.getElem?_toArray,List.getElem?_cons_zero,List.getElem?_cons_succ,Option.some.injEq] at ho;subst ho;rw [f11 (haf ⟨11,.data⟩ (by simp) rfl),f14 (haf ⟨14,.data⟩ (by simp) rfl)];refine Eq.mpr (if_pos (by rfl)) ?_
        (try dsimp only)
        go_wp2_with fail;exact hK (fun jj=>if jj=77 then Value.bool true else if jj=73 then Value.bool true else if jj=76 then Value.bool true else lx jj) _ ⟨X5,f0,f1,f2,f3,f4,f5,f6,f7,f8,f9,f10,(fun _=>rfl),f12,f13,(fun _=>rfl),(fun _=>rfl),f16,f17,f18,f19,f20,f21⟩
       | 16,ho,hL,haf,hK =>
        simp only [List.getElem?_toArray,List.getElem?_cons_zero,List.getElem?_cons_succ,Option.some.injEq] at ho;subst ho;rw [f15 (haf ⟨15,.data⟩ (by simp) rfl)];refine Eq.mpr (if_pos (by rfl)) ?_
        (try dsimp only)
        go_wp2_with fail;exact hK (fun jj=>if jj=78 then Value.bool true else if jj=77 then Value.bool true else lx jj) _ ⟨X5,f0,f1,f2,f3,f4,f5,f6,f7,f8,f9,f10,f11,f12,f13,f14,(fun _=>rfl),(fun _=>rfl),f17,f18,f19,f20,f21⟩
       | 17,ho,hL,haf,hK =>
        simp only [List.getElem?_toArray,List.getElem?_cons_zero,List.getElem?_cons_succ,Option.some.injEq] at ho;subst ho;rw [f16 (haf ⟨16,.guard⟩ (by simp) rfl)];refine Eq.mpr (if_pos (by rfl)) ?_
        (try dsimp only)
        go_wp2_with fail;exact hK (fun jj=>if jj=79 then Value.pointer (some ⟨w.heap.size,13,none⟩) else if jj=78 then Value.bool true else lx jj) _ ⟨X5,f0,f1,f2,f3,f4,f5,f6,f7,f8,f9,f10,f11,f12,f13,f14,f15,(fun _=>rfl),(fun _=>rfl),f18,f19,f20,f21⟩
       | 18,ho,hL,haf,hK =>
        simp only [List.getElem?_toArray,List.getElem?_cons_zero,List.getElem?_cons_succ,Option.some.injEq] at ho;subst ho;rw [f17 (haf ⟨17,.data⟩ (by simp) rfl),f16 (haf ⟨16,.guard⟩ (by simp) rfl)];refine Eq.mpr (if_pos (by rfl)) ?_
        (try dsimp only)
        have c13:=cell_later X5 b13;go_wp2_with fail;exact hK (fun jj=>if jj=80 then Value.int .i64 m else if jj=79 then Value.pointer (some ⟨w.heap.size,13,none⟩) else if jj=78 then Value.bool true else lx jj) _ ⟨X5,f0,f1,f2,f3,f4,f5,f6,f7,f8,f9,f10,f11,f12,f13,f14,f15,(fun _=>rfl),(fun _=>rfl),(fun _=>rfl),f19,f20,f21⟩
       | 19,ho,hL,haf,hK =>
        simp only [List.getElem?_toArray,List.getElem?_cons_zero,List.getElem?_cons_succ,Option.some.injEq] at ho;subst ho;rw [f18 (haf ⟨18,.data⟩ (by simp) rfl),f16 (haf ⟨16,.guard⟩ (by simp) rfl)];refine Eq.mpr (if_pos (by rfl)) ?_
        (try dsimp only)
        go_wp2_with fail;exact hK (fun jj=>if jj=81 then Value.bool true else if jj=80 then Value.int .i64 m else if jj=78 then Value.bool true else lx jj) _ ⟨X5,f0,f1,f2,f3,f4,f5,f6,f7,f8,f9,f10,f11,f12,f13,f14,f15,(fun _=>rfl),f17,(fun _=>rfl),(fun _=>rfl),f20,f21⟩
       | 20,ho,hL,haf,hK =>
        simp only [List.getElem?_toArray,List.getElem?_cons_zero,List.getElem?_cons_succ,Option.some.injEq] at ho;subst ho;rw [f16 (haf ⟨16,.data⟩ (by simp) rfl),f19 (haf ⟨19,.data⟩ (by simp) rfl)];refine Eq.mpr (if_pos (by rfl)) ?_
        (try dsimp only)
        go_wp2_with fail;exact hK (fun jj=>if jj=82 then Value.bool true else if jj=78 then Value.bool true else if jj=81 then Value.bool true else lx jj) _ ⟨X5,f0,f1,f2,f3,f4,f5,f6,f7,f8,f9,f10,f11,f12,f13,f14,f15,(fun _=>rfl),f17,f18,(fun _=>rfl),(fun _=>rfl),f21⟩
       | 21,ho,hL,haf,hK =>
        simp only [List.getElem?_toArray,List.getElem?_cons_zero,List.getElem?_cons_succ,Option.some.injEq] at ho;subst ho;rw [f20 (haf ⟨20,.data⟩ (by simp) rfl)];refine Eq.mpr (if_pos (by rfl)) ?_
        (try dsimp only)
        go_wp2_with fail;exact hK (fun jj=>if jj=2 then Value.bool true else if jj=82 then Value.bool true else lx jj) _ ⟨X5,f0,f1,f2,f3,f4,f5,f6,f7,f8,f9,f10,f11,f12,f13,f14,f15,f16,f17,f18,f19,(fun _=>rfl),(fun _=>rfl)⟩
       | k+22,ho,_,_,_=>simp at ho
      ·intro L lx wl hall hI;obtain ⟨X5,f0,f1,f2,f3,f4,f5,f6,f7,f8,f9,f10,f11,f12,f13,f14,f15,f16,f17,f18,f19,f20,f21⟩:=hI.out;have v2:=f21 (hall 21 (by simp));clear hI hall f0 f1 f2 f3 f4 f5 f6 f7 f8 f9 f10 f11 f12 f13 f14 f15 f16 f17 f18 f19 f20 f21
       (try dsimp only)
       rw [v2];go_wp2_with fail;go_ret;exact ⟨ret_bool HB.out,xt (xt X Y) X5⟩
     ·have g2:decide (m≤30)=false:=decide_eq_false q2;have HB:Hid (false=Q):=(by show _=_;rw [← HB0.out,g1,g2];rfl);refine wp_region_letters_g (fun lx:Nat→Value=>{ tmps:=#[ndV 11 t false 0 0 0 0 false false 0 0 false false m,Value.pointer (some ⟨w.heap.size,0,none⟩),lx 2,ndV 11 t false 0 0 0 0 false false 0 0 false false m,ndV 11 t false 0 0 0 0 false false 0 0 false false m,ndV 11 t false 0 0 0 0 false false 0 0 false false m,Value.bool false,Value.pointer (some ⟨w.heap.size,0,none⟩),Value.int .i64 11,Value.bool false,Value.bool false,undef,undef,undef,undef,undef,undef,undef,undef,undef,Value.bool false,Value.bool false,undef,undef,undef,Value.bool false,Value.bool false,undef,undef,undef,Value.bool false,Value.bool false,undef,undef,undef,Value.bool false,Value.bool false,undef,undef,undef,Value.bool false,Value.bool false,undef,undef,undef,undef,undef,undef,undef,undef,Value.bool false,Value.bool false,undef,undef,undef,Value.bool false,Value.bool false,undef,undef,undef,Value.bool true,Value.bool true,lx 62,lx 63,lx 64,lx 65,lx 66,lx 67,lx 68,lx 69,lx 70,lx 71,lx 72,lx 73,lx 74,lx 75,lx 76,lx 77,lx 78,lx 79,lx 80,lx 81,lx 82,undef,undef,undef,undef,undef,undef,undef,undef,undef,undef,undef,undef,undef,undef,undef,undef,undef],defers:=[] }) (fun L lx lw=>Hid (Ext w1 lw∧(L 0=true→lx 62=Value.pointer (some ⟨w.heap.size,1,none⟩))∧(L 1=true→lx 63=sV t)∧(L 2=true→lx 64=Value.bool true)∧(L 3=true→lx 65=Value.bool true)∧(L 4=true→lx 66=Value.pointer (some ⟨w.heap.size,1,none⟩))∧(L 5=true→lx 67=sV t)∧(L 6=true→lx 68=Value.pointer (some ⟨w.heap.size,1,none⟩))∧(L 7=true→lx 69=sV t)∧(L 8=true→lx 70=sV u)∧(L 9=true→lx 71=Value.bool true)∧(L 10=true→lx 72=Value.bool true)∧(L 11=true→lx 73=Value.bool true)∧(L 12=true→lx 74=Value.pointer (some ⟨w.heap.size,13,none⟩))∧(L 13=true→lx 75=Value.int .i64 m)∧(L 14=true→lx 76=Value.bool true)∧(L 15=true→lx 77=Value.bool true)∧(L 16=true→lx 78=Value.bool true)∧(L 17=true→lx 79=Value.pointer (some ⟨w.heap.size,13,none⟩))∧(L 18=true→lx 80=Value.int .i64 m)∧(L 19=true→lx 81=Value.bool false)∧(L 20=true→lx 82=Value.bool false)∧(L 21=true→lx 2=Value.bool false))) rfl (by kernel_rfl) (fun jj=>if jj=2 then Value.bool false else undef) rfl ?_ ?_ ?_
      ·refine ⟨xd (xr _),?_,?_,?_,?_,?_,?_,?_,?_,?_,?_,?_,?_,?_,?_,?_,?_,?_,?_,?_,?_,?_,?_⟩ <;> (intro h;cases h)
      ·intro L lx wl i o K hK ho hL haf hI;obtain ⟨X5,f0,f1,f2,f3,f4,f5,f6,f7,f8,f9,f10,f11,f12,f13,f14,f15,f16,f17,f18,f19,f20,f21⟩:=hI.out
       match i,ho,hL,haf,hK with
       | 0,ho,hL,haf,hK =>
        simp only [List.getElem?_toArray,List.getElem?_cons_zero,Option.some.injEq] at ho;subst ho;refine Eq.mpr (if_pos (by rfl)) ?_
        (try dsimp only)
        go_wp2_with fail;exact hK (fun jj=>if jj=62 then Value.pointer (some ⟨w.heap.size,1,none⟩) else lx jj) _ ⟨X5,(fun _=>rfl),f1,f2,f3,f4,f5,f6,f7,f8,f9,f10,f11,f12,f13,f14,f15,f16,f17,f18,f19,f20,f21⟩
       | 1,ho,hL,haf,hK =>
        simp only [List.getElem?_toArray,List.getElem?_cons_zero,List.getElem?_cons_succ,Option.some.injEq] at ho;subst ho;rw [f0 (haf ⟨0,.data⟩ (by simp) rfl)];refine Eq.mpr (if_pos (by rfl)) ?_
        (try dsimp only)
        have c1:=cell_later X5 b1;go_wp2_with fail;exact hK (fun jj=>if jj=63 then sV t else if jj=62 then Value.pointer (some ⟨w.heap.size,1,none⟩) else lx jj) _ ⟨X5,(fun _=>rfl),(fun _=>rfl),f2,f3,f4,f5,f6,f7,f8,f9,f10,f11,f12,f13,f14,f15,f16,f17,f18,f19,f20,f21⟩
       | 2,ho,hL,haf,hK =>
        simp only [List.getElem?_toArray,List.getElem?_cons_zero,List.getElem?_cons_succ,Option.some.injEq] at ho;subst ho;rw [f1 (haf ⟨1,.data⟩ (by simp) rfl)];refine Eq.mpr (if_pos (by rfl)) ?_
        (try dsimp only)
        go_wp2_with fail;refine (CN.out _ X5).mono ?_;rintro rr w' ⟨rfl,E5⟩;go_wp2_with fail;exact hK (fun jj=>if jj=64 then Value.bool true else if jj=63 then sV t else lx jj) _ ⟨(xt X5 E5),f0,(fun _=>rfl),(fun _=>rfl),f3,f4,f5,f6,f7,f8,f9,f10,f11,f12,f13,f14,f15,f16,f17,f18,f19,f20,f21⟩
       | 3,ho,hL,haf,hK =>
        simp only [List.getElem?_toArray,List.getElem?_cons_zero,List.getElem?_cons_succ,Option.some.injEq] at ho;subst ho;rw [f2 (haf ⟨2,.data⟩ (by simp) rfl)];refine Eq.mpr (if_pos (by rfl)) ?_
        (try dsimp only)
        go_wp2_with fail;exact hK (fun jj=>if jj=65 then Value.bool true else if jj=64 then Value.bool true else lx jj) _ ⟨X5,f0,f1,(fun _=>rfl),(fun _=>rfl),f4,f5,f6,f7,f8,f9,f10,f11,f12,f13,f14,f15,f16,f17,f18,f19,f20,f21⟩
       | 4,ho,hL,haf,hK =>
        simp only [List.getElem?_toArray,List.getElem?_cons_zero,List.getElem?_cons_succ,Option.some.injEq] at ho;subst ho;rw [f3 (haf ⟨3,.guard⟩ (by simp) rfl)];refine Eq.mpr (if_pos (by rfl)) ?_
        (try dsimp only)
        go_wp2_with fail;exact hK (fun jj=>if jj=66 then Value.pointer (some ⟨w.heap.size,1,none⟩) else if jj=65 then Value.bool true else lx jj) _ ⟨X5,f0,f1,f2,(fun _=>rfl),(fun _=>rfl),f5,f6,f7,f8,f9,f10,f11,f12,f13,f14,f15,f16,f17,f18,f19,f20,f21⟩
       | 5,ho,hL,haf,hK =>
        simp only [List.getElem?_toArray,List.getElem?_cons_zero,List.getElem?_cons_succ,Option.some.injEq] at ho;subst ho;rw [f4 (haf ⟨4,.data⟩ (by simp) rfl),f3 (haf ⟨3,.guard⟩ (by simp) rfl)];refine Eq.mpr (if_pos (by rfl)) ?_
        (try dsimp only)
        have c1:=cell_later X5 b1;go_wp2_with fail;exact hK (fun jj=>if jj=67 then sV t else if jj=66 then Value.pointer (some ⟨w.heap.size,1,none⟩) else if jj=65 then Value.bool true else lx jj) _ ⟨X5,f0,f1,f2,(fun _=>rfl),(fun _=>rfl),(fun _=>rfl),f6,f7,f8,f9,f10,f11,f12,f13,f14,f15,f16,f17,f18,f19,f20,f21⟩
       | 6,ho,hL,haf,hK =>
        simp only [List.getElem?_toArray,List.getElem?_cons_zero,List.getElem?_cons_succ,Option.some.injEq] at ho;subst ho;rw [f3 (haf ⟨3,.guard⟩ (by simp) rfl)];refine Eq.mpr (if_pos (by rfl)) ?_
        (try dsimp only)
        go_wp2_with fail;exact hK (fun jj=>if jj=68 then Value.pointer (some ⟨w.heap.size,1,none⟩) else if jj=65 then Value.bool true else lx jj) _ ⟨X5,f0,f1,f2,(fun _=>rfl),f4,f5,(fun _=>rfl),f7,f8,f9,f10,f11,f12,f13,f14,f15,f16,f17,f18,f19,f20,f21⟩
       | 7,ho,hL,haf,hK =>
        simp only [List.getElem?_toArray,List.getElem?_cons_zero,List.getElem?_cons_succ,Option.some.injEq] at ho;subst ho;rw [f6 (haf ⟨6,.data⟩ (by simp) rfl),f3 (haf ⟨3,.guard⟩ (by simp) rfl)];refine Eq.mpr (if_pos (by rfl)) ?_
        (try dsimp only)
        have c1:=cell_later X5 b1;go_wp2_with fail;exact hK (fun jj=>if jj=69 then sV t else if jj=68 then Value.pointer (some ⟨w.heap.size,1,none⟩) else if jj=65 then Value.bool true else lx jj) _ ⟨X5,f0,f1,f2,(fun _=>rfl),f4,f5,(fun _=>rfl),(fun _=>rfl),f8,f9,f10,f11,f12,f13,f14,f15,f16,f17,f18,f19,f20,f21⟩
       | 8,ho,hL,haf,hK =>
        simp only [List.getElem?_toArray,List.getElem?_cons_zero,List.getElem?_cons_succ,Option.some.injEq] at ho;subst ho;rw [f7 (haf ⟨7,.data⟩ (by simp) rfl),f3 (haf ⟨3,.guard⟩ (by simp) rfl)];refine Eq.mpr (if_pos (by rfl)) ?_
        (try dsimp only)
        go_wp2_with fail;refine (CC.out _).mono ?_;rintro rr w' ⟨rfl,E5⟩;go_wp2_with fail;exact hK (fun jj=>if jj=70 then sV u else if jj=69 then sV t else if jj=65 then Value.bool true else lx jj) _ ⟨(xt X5 E5),f0,f1,f2,(fun _=>rfl),f4,f5,f6,(fun _=>rfl),(fun _=>rfl),f9,f10,f11,f12,f13,f14,f15,f16,f17,f18,f19,f20,f21⟩
       | 9,ho,hL,haf,hK =>
        simp only [List.getElem?_toArray,List.getElem?_cons_zero,List.getElem?_cons_succ,Option.some.injEq] at ho;subst ho;rw [f5 (haf ⟨5,.data⟩ (by simp) rfl),f8 (haf ⟨8,.data⟩ (by simp) rfl),f3 (haf ⟨3,.guard⟩ (by simp) rfl)];refine Eq.mpr (if_pos (by rfl)) ?_
        (try dsimp only)
        go_wp2_with fail;exact hK (fun jj=>if jj=71 then Value.bool true else if jj=67 then sV t else if jj=70 then sV u else if jj=65 then Value.bool true else lx jj) _ ⟨X5,f0,f1,f2,(fun _=>rfl),f4,(fun _=>rfl),f6,f7,(fun _=>rfl),(fun _=>rfl),f10,f11,f12,f13,f14,f15,f16,f17,f18,f19,f20,f21⟩
       | 10,ho,hL,haf,hK =>
        simp only [List.getElem?_toArray,List.getElem?_cons_zero,List.getElem?_cons_succ,Option.some.injEq] at ho;subst ho;rw [f3 (haf ⟨3,.data⟩ (by simp) rfl),f9 (haf ⟨9,.data⟩ (by simp) rfl)];refine Eq.mpr (if_pos (by rfl)) ?_
        (try dsimp only)
        go_wp2_with fail;exact hK (fun jj=>if jj=72 then Value.bool true else if jj=65 then Value.bool true else if jj=71 then Value.bool true else lx jj) _ ⟨X5,f0,f1,f2,(fun _=>rfl),f4,f5,f6,f7,f8,(fun _=>rfl),(fun _=>rfl),f11,f12,f13,f14,f15,f16,f17,f18,f19,f20,f21⟩
       | 11,ho,hL,haf,hK =>
        simp only [List.getElem?_toArray,List.getElem?_cons_zero,List.getElem?_cons_succ,Option.some.injEq] at ho;subst ho;rw [f10 (haf ⟨10,.data⟩ (by simp) rfl)];refine Eq.mpr (if_pos (by rfl)) ?_
        (try dsimp only)
        go_wp2_with fail;exact hK (fun jj=>if jj=73 then Value.bool true else if jj=72 then Value.bool true else lx jj) _ ⟨X5,f0,f1,f2,f3,f4,f5,f6,f7,f8,f9,(fun _=>rfl),(fun _=>rfl),f12,f13,f14,f15,f16,f17,f18,f19,f20,f21⟩
       | 12,ho,hL,haf,hK =>
        simp only [List.getElem?_toArray,List.getElem?_cons_zero,List.getElem?_cons_succ,Option.some.injEq] at ho;subst ho;rw [f11 (haf ⟨11,.guard⟩ (by simp) rfl)];refine Eq.mpr (if_pos (by rfl)) ?_
        (try dsimp only)
        go_wp2_with fail;exact hK (fun jj=>if jj=74 then Value.pointer (some ⟨w.heap.size,13,none⟩) else if jj=73 then Value.bool true else lx jj) _ ⟨X5,f0,f1,f2,f3,f4,f5,f6,f7,f8,f9,f10,(fun _=>rfl),(fun _=>rfl),f13,f14,f15,f16,f17,f18,f19,f20,f21⟩
       | 13,ho,hL,haf,hK =>
        simp only [List.getElem?_toArray,List.getElem?_cons_zero,List.getElem?_cons_succ,Option.some.injEq] at ho;subst ho;rw [f12 (haf ⟨12,.data⟩ (by simp) rfl),f11 (haf ⟨11,.guard⟩ (by simp) rfl)];refine Eq.mpr (if_pos (by rfl)) ?_
        (try dsimp only)
        have c13:=cell_later X5 b13;go_wp2_with fail;exact hK (fun jj=>if jj=75 then Value.int .i64 m else if jj=74 then Value.pointer (some ⟨w.heap.size,13,none⟩) else if jj=73 then Value.bool true else lx jj) _ ⟨X5,f0,f1,f2,f3,f4,f5,f6,f7,f8,f9,f10,(fun _=>rfl),(fun _=>rfl),(fun _=>rfl),f14,f15,f16,f17,f18,f19,f20,f21⟩
       | 14,ho,hL,haf,hK =>
        simp only [List.getElem?_toArray,List.getElem?_cons_zero,List.getElem?_cons_succ,Option.some.injEq] at ho;subst ho;rw [f13 (haf ⟨13,.data⟩ (by simp) rfl),f11 (haf ⟨11,.guard⟩ (by simp) rfl)];refine Eq.mpr (if_pos (by rfl)) ?_
        (try dsimp only)
        go_wp2_with fail;exact hK (fun jj=>if jj=76 then Value.bool true else if jj=75 then Value.int .i64 m else if jj=73 then Value.bool true else lx jj) _ ⟨X5,f0,f1,f2,f3,f4,f5,f6,f7,f8,f9,f10,(fun _=>rfl),f12,(fun _=>rfl),(fun _=>rfl),f15,f16,f17,f18,f19,f20,f21⟩
       | 15,ho,hL,haf,hK =>
        simp only [List.getElem?_toArray,List.getElem?_cons_zero,List.getElem?_cons_succ,Option.some.injEq] at ho;subst ho;rw [f11 (haf ⟨11,.data⟩ (by simp) rfl),f14 (haf ⟨14,.data⟩ (by simp) rfl)];refine Eq.mpr (if_pos (by rfl)) ?_
        (try dsimp only)
        go_wp2_with fail;exact hK (fun jj=>if jj=77 then Value.bool true else if jj=73 then Value.bool true else if jj=76 then Value.bool true else lx jj) _ ⟨X5,f0,f1,f2,f3,f4,f5,f6,f7,f8,f9,f10,(fun _=>rfl),f12,f13,(fun _=>rfl),(fun _=>rfl),f16,f17,f18,f19,f20,f21⟩
       | 16,ho,hL,haf,hK =>
        simp only [List.getElem?_toArray,List.getElem?_cons_zero,List.getElem?_cons_succ,Option.some.injEq] at ho;subst ho;rw [f15 (haf ⟨15,.data⟩ (by simp) rfl)];refine Eq.mpr (if_pos (by rfl)) ?_
        (try dsimp only)
        go_wp2_with fail;exact hK (fun jj=>if jj=78 then Value.bool true else if jj=77 then Value.bool true else lx jj) _ ⟨X5,f0,f1,f2,f3,f4,f5,f6,f7,f8,f9,f10,f11,f12,f13,f14,(fun _=>rfl),(fun _=>rfl),f17,f18,f19,f20,f21⟩
       | 17,ho,hL,haf,hK =>
        simp only [List.getElem?_toArray,List.getElem?_cons_zero,List.getElem?_cons_succ,Option.some.injEq] at ho;subst ho;rw [f16 (haf ⟨16,.guard⟩ (by simp) rfl)];refine Eq.mpr (if_pos (by rfl)) ?_
        (try dsimp only)
        go_wp2_with fail;exact hK (fun jj=>if jj=79 then Value.pointer (some ⟨w.heap.size,13,none⟩) else if jj=78 then Value.bool true else lx jj) _ ⟨X5,f0,f1,f2,f3,f4,f5,f6,f7,f8,f9,f10,f11,f12,f13,f14,f15,(fun _=>rfl),(fun _=>rfl),f18,f19,f20,f21⟩
       | 18,ho,hL,haf,hK =>
        simp only [List.getElem?_toArray,List.getElem?_cons_zero,List.getElem?_cons_succ,Option.some.injEq] at ho;subst ho;rw [f17 (haf ⟨17,.data⟩ (by simp) rfl),f16 (haf ⟨16,.guard⟩ (by simp) rfl)];refine Eq.mpr (if_pos (by rfl)) ?_
        (try dsimp only)
        have c13:=cell_later X5 b13;go_wp2_with fail;exact hK (fun jj=>if jj=80 then Value.int .i64 m else if jj=79 then Value.pointer (some ⟨w.heap.size,13,none⟩) else if jj=78 then Value.bool true else lx jj) _ ⟨X5,f0,f1,f2,f3,f4,f5,f6,f7,f8,f9,f10,f11,f12,f13,f14,f15,(fun _=>rfl),(fun _=>rfl),(fun _=>rfl),f19,f20,f21⟩
       | 19,ho,hL,haf,hK =>
        simp only [List.getElem?_toArray,List.getElem?_cons_zero,List.getElem?_cons_succ,Option.some.injEq] at ho;subst ho;rw [f18 (haf ⟨18,.data⟩ (by simp) rfl),f16 (haf ⟨16,.guard⟩ (by simp) rfl)];refine Eq.mpr (if_pos (by rfl)) ?_
        (try dsimp only)
        go_wp2_with fail;exact hK (fun jj=>if jj=81 then Value.bool false else if jj=80 then Value.int .i64 m else if jj=78 then Value.bool true else lx jj) _ ⟨X5,f0,f1,f2,f3,f4,f5,f6,f7,f8,f9,f10,f11,f12,f13,f14,f15,(fun _=>rfl),f17,(fun _=>rfl),(fun _=>rfl),f20,f21⟩
       | 20,ho,hL,haf,hK =>
        simp only [List.getElem?_toArray,List.getElem?_cons_zero,List.getElem?_cons_succ,Option.some.injEq] at ho;subst ho;rw [f16 (haf ⟨16,.data⟩ (by simp) rfl),f19 (haf ⟨19,.data⟩ (by simp) rfl)];refine Eq.mpr (if_pos (by rfl)) ?_
        (try dsimp only)
        go_wp2_with fail;exact hK (fun jj=>if jj=82 then Value.bool false else if jj=78 then Value.bool true else if jj=81 then Value.bool false else lx jj) _ ⟨X5,f0,f1,f2,f3,f4,f5,f6,f7,f8,f9,f10,f11,f12,f13,f14,f15,(fun _=>rfl),f17,f18,(fun _=>rfl),(fun _=>rfl),f21⟩
       | 21,ho,hL,haf,hK =>
        simp only [List.getElem?_toArray,List.getElem?_cons_zero,List.getElem?_cons_succ,Option.some.injEq] at ho;subst ho;rw [f20 (haf ⟨20,.data⟩ (by simp) rfl)];refine Eq.mpr (if_pos (by rfl)) ?_
        (try dsimp only)
        go_wp2_with fail;exact hK (fun jj=>if jj=2 then Value.bool false else if jj=82 then Value.bool false else lx jj) _ ⟨X5,f0,f1,f2,f3,f4,f5,f6,f7,f8,f9,f10,f11,f12,f13,f14,f15,f16,f17,f18,f19,(fun _=>rfl),(fun _=>rfl)⟩
       | k+22,ho,_,_,_=>simp at ho
      ·intro L lx wl hall hI;obtain ⟨X5,f0,f1,f2,f3,f4,f5,f6,f7,f8,f9,f10,f11,f12,f13,f14,f15,f16,f17,f18,f19,f20,f21⟩:=hI.out;have v2:=f21 (hall 21 (by simp));clear hI hall f0 f1 f2 f3 f4 f5 f6 f7 f8 f9 f10 f11 f12 f13 f14 f15 f16 f17 f18 f19 f20 f21
       (try dsimp only)
       rw [v2];go_wp2_with fail;go_ret;exact ⟨ret_bool HB.out,xt (xt X Y) X5⟩
    ·have g1:decide (0≤m)=false:=decide_eq_false q1;have HB:Hid (false=Q):=(by show _=_;rw [← HB0.out,g1];rfl);refine wp_region_letters_g (fun lx:Nat→Value=>{ tmps:=#[ndV 11 t false 0 0 0 0 false false 0 0 false false m,Value.pointer (some ⟨w.heap.size,0,none⟩),lx 2,ndV 11 t false 0 0 0 0 false false 0 0 false false m,ndV 11 t false 0 0 0 0 false false 0 0 false false m,ndV 11 t false 0 0 0 0 false false 0 0 false false m,Value.bool false,Value.pointer (some ⟨w.heap.size,0,none⟩),Value.int .i64 11,Value.bool false,Value.bool false,undef,undef,undef,undef,undef,undef,undef,undef,undef,Value.bool false,Value.bool false,undef,undef,undef,Value.bool false,Value.bool false,undef,undef,undef,Value.bool false,Value.bool false,undef,undef,undef,Value.bool false,Value.bool false,undef,undef,undef,Value.bool false,Value.bool false,undef,undef,undef,undef,undef,undef,undef,undef,Value.bool false,Value.bool false,undef,undef,undef,Value.bool false,Value.bool false,undef,undef,undef,Value.bool true,Value.bool true,lx 62,lx 63,lx 64,lx 65,lx 66,lx 67,lx 68,lx 69,lx 70,lx 71,lx 72,lx 73,lx 74,lx 75,lx 76,lx 77,lx 78,lx 79,lx 80,lx 81,lx 82,undef,undef,undef,undef,undef,undef,undef,undef,undef,undef,undef,undef,undef,undef,undef,undef,undef],defers:=[] }) (fun L lx lw=>Hid (Ext w1 lw∧(L 0=true→lx 62=Value.pointer (some ⟨w.heap.size,1,none⟩))∧(L 1=true→lx 63=sV t)∧(L 2=true→lx 64=Value.bool true)∧(L 3=true→lx 65=Value.bool true)∧(L 4=true→lx 66=Value.pointer (some ⟨w.heap.size,1,none⟩))∧(L 5=true→lx 67=sV t)∧(L 6=true→lx 68=Value.pointer (some ⟨w.heap.size,1,none⟩))∧(L 7=true→lx 69=sV t)∧(L 8=true→lx 70=sV u)∧(L 9=true→lx 71=Value.bool true)∧(L 10=true→lx 72=Value.bool true)∧(L 11=true→lx 73=Value.bool true)∧(L 12=true→lx 74=Value.pointer (some ⟨w.heap.size,13,none⟩))∧(L 13=true→lx 75=Value.int .i64 m)∧(L 14=true→lx 76=Value.bool false)∧(L 15=true→lx 77=Value.bool false)∧(L 16=true→lx 78=Value.bool false)∧(L 17=true→lx 79=undef)∧(L 18=true→lx 80=undef)∧(L 19=true→lx 81=undef)∧(L 20=true→lx 82=Value.bool false)∧(L 21=true→lx 2=Value.bool false))) rfl (by kernel_rfl) (fun jj=>if jj=2 then Value.bool false else undef) rfl ?_ ?_ ?_
     ·refine ⟨xd (xr _),?_,?_,?_,?_,?_,?_,?_,?_,?_,?_,?_,?_,?_,?_,?_,?_,?_,?_,?_,?_,?_,?_⟩ <;> (intro h;cases h)
     ·intro L lx wl i o K hK ho hL haf hI;obtain ⟨X5,f0,f1,f2,f3,f4,f5,f6,f7,f8,f9,f10,f11,f12,f13,f14,f15,f16,f17,f18,f19,f20,f21⟩:=hI.out
      match i,ho,hL,haf,hK with
      | 0,ho,hL,haf,hK =>
       simp only [List.getElem?_toArray,List.getElem?_cons_zero,Option.some.injEq] at ho;subst ho;refine Eq.mpr (if_pos (by rfl)) ?_
       (try dsimp only)
       go_wp2_with fail;exact hK (fun jj=>if jj=62 then Value.pointer (some ⟨w.heap.size,1,none⟩) else lx jj) _ ⟨X5,(fun _=>rfl),f1,f2,f3,f4,f5,f6,f7,f8,f9,f10,f11,f12,f13,f14,f15,f16,f17,f18,f19,f20,f21⟩
      | 1,ho,hL,haf,hK =>
       simp only [List.getElem?_toArray,List.getElem?_cons_zero,List.getElem?_cons_succ,Option.some.injEq] at ho;subst ho;rw [f0 (haf ⟨0,.data⟩ (by simp) rfl)];refine Eq.mpr (if_pos (by rfl)) ?_
       (try dsimp only)
       have c1:=cell_later X5 b1;go_wp2_with fail;exact hK (fun jj=>if jj=63 then sV t else if jj=62 then Value.pointer (some ⟨w.heap.size,1,none⟩) else lx jj) _ ⟨X5,(fun _=>rfl),(fun _=>rfl),f2,f3,f4,f5,f6,f7,f8,f9,f10,f11,f12,f13,f14,f15,f16,f17,f18,f19,f20,f21⟩
      | 2,ho,hL,haf,hK =>
       simp only [List.getElem?_toArray,List.getElem?_cons_zero,List.getElem?_cons_succ,Option.some.injEq] at ho;subst ho;rw [f1 (haf ⟨1,.data⟩ (by simp) rfl)];refine Eq.mpr (if_pos (by rfl)) ?_
       (try dsimp only)
       go_wp2_with fail;refine (CN.out _ X5).mono ?_;rintro rr w' ⟨rfl,E5⟩;go_wp2_with fail;exact hK (fun jj=>if jj=64 then Value.bool true else if jj=63 then sV t else lx jj) _ ⟨(xt X5 E5),f0,(fun _=>rfl),(fun _=>rfl),f3,f4,f5,f6,f7,f8,f9,f10,f11,f12,f13,f14,f15,f16,f17,f18,f19,f20,f21⟩
      | 3,ho,hL,haf,hK =>
       simp only [List.getElem?_toArray,List.getElem?_cons_zero,List.getElem?_cons_succ,Option.some.injEq] at ho;subst ho;rw [f2 (haf ⟨2,.data⟩ (by simp) rfl)];refine Eq.mpr (if_pos (by rfl)) ?_
       (try dsimp only)
       go_wp2_with fail;exact hK (fun jj=>if jj=65 then Value.bool true else if jj=64 then Value.bool true else lx jj) _ ⟨X5,f0,f1,(fun _=>rfl),(fun _=>rfl),f4,f5,f6,f7,f8,f9,f10,f11,f12,f13,f14,f15,f16,f17,f18,f19,f20,f21⟩
      | 4,ho,hL,haf,hK =>
       simp only [List.getElem?_toArray,List.getElem?_cons_zero,List.getElem?_cons_succ,Option.some.injEq] at ho;subst ho;rw [f3 (haf ⟨3,.guard⟩ (by simp) rfl)];refine Eq.mpr (if_pos (by rfl)) ?_
       (try dsimp only)
       go_wp2_with fail;exact hK (fun jj=>if jj=66 then Value.pointer (some ⟨w.heap.size,1,none⟩) else if jj=65 then Value.bool true else lx jj) _ ⟨X5,f0,f1,f2,(fun _=>rfl),(fun _=>rfl),f5,f6,f7,f8,f9,f10,f11,f12,f13,f14,f15,f16,f17,f18,f19,f20,f21⟩
      | 5,ho,hL,haf,hK =>
       simp only [List.getElem?_toArray,List.getElem?_cons_zero,List.getElem?_cons_succ,Option.some.injEq] at ho;subst ho;rw [f4 (haf ⟨4,.data⟩ (by simp) rfl),f3 (haf ⟨3,.guard⟩ (by simp) rfl)];refine Eq.mpr (if_pos (by rfl)) ?_
       (try dsimp only)
       have c1:=cell_later X5 b1;go_wp2_with fail;exact hK (fun jj=>if jj=67 then sV t else if jj=66 then Value.pointer (some ⟨w.heap.size,1,none⟩) else if jj=65 then Value.bool true else lx jj) _ ⟨X5,f0,f1,f2,(fun _=>rfl),(fun _=>rfl),(fun _=>rfl),f6,f7,f8,f9,f10,f11,f12,f13,f14,f15,f16,f17,f18,f19,f20,f21⟩
      | 6,ho,hL,haf,hK =>
       simp only [List.getElem?_toArray,List.getElem?_cons_zero,List.getElem?_cons_succ,Option.some.injEq] at ho;subst ho;rw [f3 (haf ⟨3,.guard⟩ (by simp) rfl)];refine Eq.mpr (if_pos (by rfl)) ?_
       (try dsimp only)
       go_wp2_with fail;exact hK (fun jj=>if jj=68 then Value.pointer (some ⟨w.heap.size,1,none⟩) else if jj=65 then Value.bool true else lx jj) _ ⟨X5,f0,f1,f2,(fun _=>rfl),f4,f5,(fun _=>rfl),f7,f8,f9,f10,f11,f12,f13,f14,f15,f16,f17,f18,f19,f20,f21⟩
      | 7,ho,hL,haf,hK =>
       simp only [List.getElem?_toArray,List.getElem?_cons_zero,List.getElem?_cons_succ,Option.some.injEq] at ho;subst ho;rw [f6 (haf ⟨6,.data⟩ (by simp) rfl),f3 (haf ⟨3,.guard⟩ (by simp) rfl)];refine Eq.mpr (if_pos (by rfl)) ?_
       (try dsimp only)
       have c1:=cell_later X5 b1;go_wp2_with fail;exact hK (fun jj=>if jj=69 then sV t else if jj=68 then Value.pointer (some ⟨w.heap.size,1,none⟩) else if jj=65 then Value.bool true else lx jj) _ ⟨X5,f0,f1,f2,(fun _=>rfl),f4,f5,(fun _=>rfl),(fun _=>rfl),f8,f9,f10,f11,f12,f13,f14,f15,f16,f17,f18,f19,f20,f21⟩
      | 8,ho,hL,haf,hK =>
       simp only [List.getElem?_toArray,List.getElem?_cons_zero,List.getElem?_cons_succ,Option.some.injEq] at ho;subst ho;rw [f7 (haf ⟨7,.data⟩ (by simp) rfl),f3 (haf ⟨3,.guard⟩ (by simp) rfl)];refine Eq.mpr (if_pos (by rfl)) ?_
       (try dsimp only)
       go_wp2_with fail;refine (CC.out _).mono ?_;rintro rr w' ⟨rfl,E5⟩;go_wp2_with fail;exact hK (fun jj=>if jj=70 then sV u else if jj=69 then sV t else if jj=65 then Value.bool true else lx jj) _ ⟨(xt X5 E5),f0,f1,f2,(fun _=>rfl),f4,f5,f6,(fun _=>rfl),(fun _=>rfl),f9,f10,f11,f12,f13,f14,f15,f16,f17,f18,f19,f20,f21⟩
      | 9,ho,hL,haf,hK =>
       simp only [List.getElem?_toArray,List.getElem?_cons_zero,List.getElem?_cons_succ,Option.some.injEq] at ho;subst ho;rw [f5 (haf ⟨5,.data⟩ (by simp) rfl),f8 (haf ⟨8,.data⟩ (by simp) rfl),f3 (haf ⟨3,.guard⟩ (by simp) rfl)];refine Eq.mpr (if_pos (by rfl)) ?_
       (try dsimp only)
       go_wp2_with fail;exact hK (fun jj=>if jj=71 then Value.bool true else if jj=67 then sV t else if jj=70 then sV u else if jj=65 then Value.bool true else lx jj) _ ⟨X5,f0,f1,f2,(fun _=>rfl),f4,(fun _=>rfl),f6,f7,(fun _=>rfl),(fun _=>rfl),f10,f11,f12,f13,f14,f15,f16,f17,f18,f19,f20,f21⟩
      | 10,ho,hL,haf,hK =>
       simp only [List.getElem?_toArray,List.getElem?_cons_zero,List.getElem?_cons_succ,Option.some.injEq] at ho;subst ho;rw [f3 (haf ⟨3,.data⟩ (by simp) rfl),f9 (haf ⟨9,.data⟩ (by simp) rfl)];refine Eq.mpr (if_pos (by rfl)) ?_
       (try dsimp only)
       go_wp2_with fail;exact hK (fun jj=>if jj=72 then Value.bool true else if jj=65 then Value.bool true else if jj=71 then Value.bool true else lx jj) _ ⟨X5,f0,f1,f2,(fun _=>rfl),f4,f5,f6,f7,f8,(fun _=>rfl),(fun _=>rfl),f11,f12,f13,f14,f15,f16,f17,f18,f19,f20,f21⟩
      | 11,ho,hL,haf,hK =>
       simp only [List.getElem?_toArray,List.getElem?_cons_zero,List.getElem?_cons_succ,Option.some.injEq] at ho;subst ho;rw [f10 (haf ⟨10,.data⟩ (by simp) rfl)];refine Eq.mpr (if_pos (by rfl)) ?_
       (try dsimp only)
       go_wp2_with fail;exact hK (fun jj=>if jj=73 then Value.bool true else if jj=72 then Value.bool true else lx jj) _ ⟨X5,f0,f1,f2,f3,f4,f5,f6,f7,f8,f9,(fun _=>rfl),(fun _=>rfl),f12,f13,f14,f15,f16,f17,f18,f19,f20,f21⟩
      | 12,ho,hL,haf,hK =>
       simp only [List.getElem?_toArray,List.getElem?_cons_zero,List.getElem?_cons_succ,Option.some.injEq] at ho;subst ho;rw [f11 (haf ⟨11,.guard⟩ (by simp) rfl)];refine Eq.mpr (if_pos (by rfl)) ?_
       (try dsimp only)
       go_wp2_with fail;exact hK (fun jj=>if jj=74 then Value.pointer (some ⟨w.heap.size,13,none⟩) else if jj=73 then Value.bool true else lx jj) _ ⟨X5,f0,f1,f2,f3,f4,f5,f6,f7,f8,f9,f10,(fun _=>rfl),(fun _=>rfl),f13,f14,f15,f16,f17,f18,f19,f20,f21⟩
      | 13,ho,hL,haf,hK =>
       simp only [List.getElem?_toArray,List.getElem?_cons_zero,List.getElem?_cons_succ,Option.some.injEq] at ho;subst ho;rw [f12 (haf ⟨12,.data⟩ (by simp) rfl),f11 (haf ⟨11,.guard⟩ (by simp) rfl)];refine Eq.mpr (if_pos (by rfl)) ?_
       (try dsimp only)
       have c13:=cell_later X5 b13;go_wp2_with fail;exact hK (fun jj=>if jj=75 then Value.int .i64 m else if jj=74 then Value.pointer (some ⟨w.heap.size,13,none⟩) else if jj=73 then Value.bool true else lx jj) _ ⟨X5,f0,f1,f2,f3,f4,f5,f6,f7,f8,f9,f10,(fun _=>rfl),(fun _=>rfl),(fun _=>rfl),f14,f15,f16,f17,f18,f19,f20,f21⟩
      | 14,ho,hL,haf,hK =>
       simp only [List.getElem?_toArray,List.getElem?_cons_zero,List.getElem?_cons_succ,Option.some.injEq] at ho;subst ho;rw [f13 (haf ⟨13,.data⟩ (by simp) rfl),f11 (haf ⟨11,.guard⟩ (by simp) rfl)];refine Eq.mpr (if_pos (by rfl)) ?_
       (try dsimp only)
       go_wp2_with fail;exact hK (fun jj=>if jj=76 then Value.bool false else if jj=75 then Value.int .i64 m else if jj=73 then Value.bool true else lx jj) _ ⟨X5,f0,f1,f2,f3,f4,f5,f6,f7,f8,f9,f10,(fun _=>rfl),f12,(fun _=>rfl),(fun _=>rfl),f15,f16,f17,f18,f19,f20,f21⟩
      | 15,ho,hL,haf,hK =>
       simp only [List.getElem?_toArray,List.getElem?_cons_zero,List.getElem?_cons_succ,Option.some.injEq] at ho;subst ho;rw [f11 (haf ⟨11,.data⟩ (by simp) rfl),f14 (haf ⟨14,.data⟩ (by simp) rfl)];refine Eq.mpr (if_pos (by rfl)) ?_
       (try dsimp only)
       go_wp2_with fail;exact hK (fun jj=>if jj=77 then Value.bool false else if jj=73 then Value.bool true else if jj=76 then Value.bool false else lx jj) _ ⟨X5,f0,f1,f2,f3,f4,f5,f6,f7,f8,f9,f10,(fun _=>rfl),f12,f13,(fun _=>rfl),(fun _=>rfl),f16,f17,f18,f19,f20,f21⟩
      | 16,ho,hL,haf,hK =>
       simp only [List.getElem?_toArray,List.getElem?_cons_zero,List.getElem?_cons_succ,Option.some.injEq] at ho;subst ho;rw [f15 (haf ⟨15,.data⟩ (by simp) rfl)];refine Eq.mpr (if_pos (by rfl)) ?_
       (try dsimp only)
       go_wp2_with fail;exact hK (fun jj=>if jj=78 then Value.bool false else if jj=77 then Value.bool false else lx jj) _ ⟨X5,f0,f1,f2,f3,f4,f5,f6,f7,f8,f9,f10,f11,f12,f13,f14,(fun _=>rfl),(fun _=>rfl),f17,f18,f19,f20,f21⟩
      | 17,ho,hL,haf,hK =>
       simp only [List.getElem?_toArray,List.getElem?_cons_zero,List.getElem?_cons_succ,Option.some.injEq] at ho;subst ho;rw [f16 (haf ⟨16,.guard⟩ (by simp) rfl)];refine Eq.mpr (if_neg (fun h=>Bool.noConfusion (show false=true from h))) ?_;exact hK (fun jj=>if jj=79 then undef else if jj=78 then Value.bool false else lx jj) _ ⟨X5,f0,f1,f2,f3,f4,f5,f6,f7,f8,f9,f10,f11,f12,f13,f14,f15,(fun _=>rfl),(fun _=>rfl),f18,f19,f20,f21⟩
      | 18,ho,hL,haf,hK =>
       simp only [List.getElem?_toArray,List.getElem?_cons_zero,List.getElem?_cons_succ,Option.some.injEq] at ho;subst ho;rw [f16 (haf ⟨16,.guard⟩ (by simp) rfl)];refine Eq.mpr (if_neg (fun h=>Bool.noConfusion (show false=true from h))) ?_;exact hK (fun jj=>if jj=80 then undef else if jj=78 then Value.bool false else lx jj) _ ⟨X5,f0,f1,f2,f3,f4,f5,f6,f7,f8,f9,f10,f11,f12,f13,f14,f15,(fun _=>rfl),f17,(fun _=>rfl),f19,f20,f21⟩
      | 19,ho,hL,haf,hK =>
       simp only [List.getElem?_toArray,List.getElem?_cons_zero,List.getElem?_cons_succ,Option.some.injEq] at ho;subst ho;rw [f16 (haf ⟨16,.guard⟩ (by simp) rfl)];refine Eq.mpr (if_neg (fun h=>Bool.noConfusion (show false=true from h))) ?_;exact hK (fun jj=>if jj=81 then undef else if jj=78 then Value.bool false else lx jj) _ ⟨X5,f0,f1,f2,f3,f4,f5,f6,f7,f8,f9,f10,f11,f12,f13,f14,f15,(fun _=>rfl),f17,f18,(fun _=>rfl),f20,f21⟩
      | 20,ho,hL,haf,hK =>
       simp only [List.getElem?_toArray,List.getElem?_cons_zero,List.getElem?_cons_succ,Option.some.injEq] at ho;subst ho;rw [f16 (haf ⟨16,.data⟩ (by simp) rfl)];refine Eq.mpr (if_pos (by rfl)) ?_
       (try dsimp only)
       go_wp2_with fail;exact hK (fun jj=>if jj=82 then Value.bool false else if jj=78 then Value.bool false else lx jj) _ ⟨X5,f0,f1,f2,f3,f4,f5,f6,f7,f8,f9,f10,f11,f12,f13,f14,f15,(fun _=>rfl),f17,f18,f19,(fun _=>rfl),f21⟩
      | 21,ho,hL,haf,hK =>
       simp only [List.getElem?_toArray,List.getElem?_cons_zero,List.getElem?_cons_succ,Option.some.injEq] at ho;subst ho;rw [f20 (haf ⟨20,.data⟩ (by simp) rfl)];refine Eq.mpr (if_pos (by rfl)) ?_
       (try dsimp only)
       go_wp2_with fail;exact hK (fun jj=>if jj=2 then Value.bool false else if jj=82 then Value.bool false else lx jj) _ ⟨X5,f0,f1,f2,f3,f4,f5,f6,f7,f8,f9,f10,f11,f12,f13,f14,f15,f16,f17,f18,f19,(fun _=>rfl),(fun _=>rfl)⟩
      | k+22,ho,_,_,_=>simp at ho
     ·intro L lx wl hall hI;obtain ⟨X5,f0,f1,f2,f3,f4,f5,f6,f7,f8,f9,f10,f11,f12,f13,f14,f15,f16,f17,f18,f19,f20,f21⟩:=hI.out;have v2:=f21 (hall 21 (by simp));clear hI hall f0 f1 f2 f3 f4 f5 f6 f7 f8 f9 f10 f11 f12 f13 f14 f15 f16 f17 f18 f19 f20 f21
      (try dsimp only)
      rw [v2];go_wp2_with fail;go_ret;exact ⟨ret_bool HB.out,xt (xt X Y) X5⟩
 ·have HB:Hid (false=Q):=by show _=_;rw [← HQ.out];unfold goodN;rw [if_neg (by decide),if_neg (by decide),if_neg (by decide),if_neg (by decide),if_neg (by decide),if_neg (by decide),if_neg (by decide),if_neg (by decide),if_neg (by decide),if_neg (by decide),if_neg (by decide),if_pos rfl,decide_eq_false he];rfl
  go_enter Tryz.func89,Tryz.ntmps89;have CT:=fun W=>toldI 11 t neg d x r c rf cf r2 c2 rf2 cf2 m W;rw [show toldL 11 t neg d x r c rf cf r2 c2 rf2 cf2 m=[.int .i64 11,sV t,.bool false,.int .i64 0,.int .i64 0,.int .i64 0,.int .i64 0,.bool false,.bool false,.int .i64 0,.int .i64 0,.bool false,.bool false,.int .i64 m] by simp [toldL]] at CT;have a0:=(VN 0 _ rfl).1;have a1:=(VN 1 _ rfl).1;have a2:=(VN 2 _ rfl).1;have a3:=(VN 3 _ rfl).1;have a4:=(VN 4 _ rfl).1;have a5:=(VN 5 _ rfl).1;have a6:=(VN 6 _ rfl).1;have a7:=(VN 7 _ rfl).1;have a8:=(VN 8 _ rfl).1;have a9:=(VN 9 _ rfl).1;have a10:=(VN 10 _ rfl).1;have a11:=(VN 11 _ rfl).1;have a12:=(VN 12 _ rfl).1;have a13:=(VN 13 _ rfl).1;have hne:=fun W=>node_neq 11 t neg d x r c rf cf r2 c2 rf2 cf2 m 11 t false 0 0 0 0 false false 0 0 false false m W;rw [decide_eq_false (by simpa using he)] at hne;go_wp2_with fail;go_region_held3 (fun w'=>w'.cell? ⟨w.heap.size,0,none⟩=some (.int .i64 11)∧w'.cell? ⟨w.heap.size,1,none⟩=some (sV t)∧w'.cell? ⟨w.heap.size,2,none⟩=some (.bool neg)∧w'.cell? ⟨w.heap.size,3,none⟩=some (.int .i64 d)∧w'.cell? ⟨w.heap.size,4,none⟩=some (.int .i64 x)∧w'.cell? ⟨w.heap.size,5,none⟩=some (.int .i64 r)∧w'.cell? ⟨w.heap.size,6,none⟩=some (.int .i64 c)∧w'.cell? ⟨w.heap.size,7,none⟩=some (.bool rf)∧w'.cell? ⟨w.heap.size,8,none⟩=some (.bool cf)∧w'.cell? ⟨w.heap.size,9,none⟩=some (.int .i64 r2)∧w'.cell? ⟨w.heap.size,10,none⟩=some (.int .i64 c2)∧w'.cell? ⟨w.heap.size,11,none⟩=some (.bool rf2)∧w'.cell? ⟨w.heap.size,12,none⟩=some (.bool cf2)∧w'.cell? ⟨w.heap.size,13,none⟩=some (.int .i64 m)) (go_keep)
   (first
    | (go_at_call 57;refine (CT _).mono ?_;rintro e w1 ⟨rfl,e1⟩;have Y:=xt (xd (xr _)) e1;have b0:=((VN.later Y) 0 _ rfl).1;have b1:=((VN.later Y) 1 _ rfl).1;have b2:=((VN.later Y) 2 _ rfl).1;have b3:=((VN.later Y) 3 _ rfl).1;have b4:=((VN.later Y) 4 _ rfl).1;have b5:=((VN.later Y) 5 _ rfl).1;have b6:=((VN.later Y) 6 _ rfl).1;have b7:=((VN.later Y) 7 _ rfl).1;have b8:=((VN.later Y) 8 _ rfl).1;have b9:=((VN.later Y) 9 _ rfl).1;have b10:=((VN.later Y) 10 _ rfl).1;have b11:=((VN.later Y) 11 _ rfl).1;have b12:=((VN.later Y) 12 _ rfl).1;have b13:=((VN.later Y) 13 _ rfl).1))
  clear CT a0 a1 a2 a3 a4 a5 a6 a7 a8 a9 a10 a11 a12 a13 hne;go_wp2_with fail;go_ret;exact ⟨ret_bool HB.out,xt X Y⟩
end Go.Proofs.YtnbagcclckekkaaGreatDoor

