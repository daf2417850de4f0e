/-
  Several texts in one: Nor, Rs, Fi.
-/
import Derived.Test.YtogecaajnjcenaaGreatDoorMg11
import Derived.Deep.DeepCutAuto
import Derived.RegionTactic
import Derived.ChangeAlike
import Derived.Test.YtogecaajnjcenaaGreatDoorMg14
namespace Go.Proofs.YtogecaajnjcenaaGreatDoor
open Go.RowKit
def lo (a b:Int):Int:=if b<a then b else a
def hi (a b:Int):Int:=if b<a then a else b
def loF (a b:Int) (p q:Bool):Bool:=if b<a then q else p
def hiF (a b:Int) (p q:Bool):Bool:=if b<a then p else q
abbrev norV (r c:Int) (rf cf:Bool) (r' c':Int) (rf' cf':Bool):Value:=arV (lo r r') (lo c c') (loF r r' rf rf') (loF c c' cf cf') (hi r r') (hi c c') (hiF r r' rf rf') (hiF c c' cf cf')
theorem Vec.made4' (w:World) (o:Obj) (v0 v1 v2 v3:Value) (t:TypeId):Vec ((w.alloc o).alloc (.cells #[v0,v1,v2,v3] t)) (w.heap.size+1) [v0,v1,v2,v3]:=by
 have h:=Vec.made4 (w.alloc o) v0 v1 v2 v3 t
 rwa [World.size_alloc] at h
theorem parseS {l:List UInt8} {r c:Int} {rf cf:Bool} (hg:GoodR r c) (e:refL r c rf cf=l) :
  numL (Lib.trimPrefix ((Lib.trimPrefix l [36]).dropWhile isLet) [36])=r∧colV ((Lib.trimPrefix l [36]).takeWhile isLet)=c∧Lib.hasPrefix ((Lib.trimPrefix l [36]).dropWhile isLet) [36]=rf∧Lib.hasPrefix l [36]=cf:=by
 obtain ⟨rest,num0,a1,a2,a3,a4,a5,a6,a7,a8⟩:=read_refL (rf:=rf) (cf:=cf) hg;obtain ⟨_,h2,h3,h4⟩:=parseI hg e;refine ⟨?_,h2,h3,h4⟩;rw [e] at a1;obtain ⟨⟨r1,r2⟩,c1,c2⟩:=hg;rw [a1,a3,a8,intT_nat (by omega),(whole_dN r.toNat (by omega)).2.2.1];omega
theorem mark_at (D:List UInt8):∃ j:Nat,(j=if Lib.hasPrefix D [36] then 1 else 0)∧j≤D.length∧Lib.trimPrefix D [36]=D.drop j∧(Lib.hasPrefix D [36]=true→0<D.length∧D.getD 0 0=36)∧(Lib.hasPrefix D [36]=false→0<D.length→D.getD 0 0 ≠ 36):=by
 cases D with
 | nil=>exact ⟨0,by rfl,by simp,by rfl,by intro h;exact absurd h (by decide),by intro _ h;simp at h⟩
 | cons a D =>
  by_cases ha:a=36
  ·subst ha;have e:Lib.hasPrefix (36 :: D) [36]=true:=by simp [Lib.hasPrefix]
   refine ⟨1,by rw [e];rfl,by simp,by unfold Lib.trimPrefix;rw [e];rfl,fun _=>by simp,(fun h=>by rw [e] at h;cases h)⟩
  ·have e:Lib.hasPrefix (a :: D) [36]=false:=by
    show ((36 == a) && _)=false;rw [beq_eq_false_iff_ne.2 (fun q=>ha q.symm)];rfl
   refine ⟨0,by rw [e];rfl,by simp,by unfold Lib.trimPrefix;rw [e];rfl,(fun h=>by rw [e] at h;cases h),fun _ _=>by simpa using ha⟩
theorem byte_drop {l R:List UInt8} {i k:Nat} (h:l.drop i=R):l.getD (i+k) 0=R.getD k 0:=by
 subst h;simp [List.getD,List.getElem?_drop]
theorem byte_bs {l:List UInt8} {p:Nat} (hp:p<(bs l).size):((bs l)[p]'hp)=l.getD p 0:=byte_atA (bs_list l) hp
set_option maxRecDepth 8000 in
set_option maxHeartbeats 4000000 in
theorem readRefS (l:List UInt8) (w:World) (hl:l.length≤1048576) :
  Calls Tryz.prog 126 #[.string (bs l)] w fun e w'=>∃ ok r c rf cf,e=.returned (.tuple #[refV r c rf cf,.bool ok])∧RefOK l ok r c rf cf∧Ext w w':=by
 have PA:=fun r c rf cf (hg:GoodR r c) (e:refL r c rf cf=l)=>parseS hg e;obtain ⟨L,hL⟩:∃ k,l.length=k:=⟨_,rfl⟩;have zL:(bs l).size=L:=by rw [bs_size,hL]
 obtain ⟨i0,hi0,hi0L,hdrop0,hm1,hm2⟩:=mark_at l;obtain ⟨R,hR⟩:∃ R,Lib.trimPrefix l [36]=R:=⟨_,rfl⟩;rw [hR] at hdrop0;obtain ⟨cf,hcf⟩:∃ b,Lib.hasPrefix l [36]=b:=⟨_,rfl⟩;rw [hcf] at hi0 hm1 hm2;obtain ⟨LR,hLR⟩:∃ k,R.length=k:=⟨_,rfl⟩;have hLL:i0+LR=L:=by
  have:=congrArg List.length hdrop0;rw [List.length_drop] at this;omega
 have HA:Hid (∀ k,k<LR→∀ hp:i0+k<(bs l).size,(bs l)[i0+k]=R.getD k 0):=fun k hk hp=>by rw [byte_bs hp,byte_drop hdrop0.symm]
 have L20:(L:Int)≤1048576:=by omega
 have B2:=Vec.made4 w (.int .i64 0) (.int .i64 0) (.bool false) (.bool false) 41;have B4:=Vec.made4' w (.cells #[.int .i64 0,.int .i64 0,.bool false,.bool false] 41) (.int .i64 0) (.int .i64 0) (.bool false) (.bool false) 41;have X:=xa (x1 w (.cells #[.int .i64 0,.int .i64 0,.bool false,.bool false] 41)) (.cells #[.int .i64 0,.int .i64 0,.bool false,.bool false] 41);have B2:=B2.later (x1 _ (.cells #[.int .i64 0,.int .i64 0,.bool false,.bool false] 41));have HI0:Hid (l.drop i0=R):=hdrop0.symm;go_enter Tryz.func126,Tryz.ntmps126;go_upto_region 3 with fail;go_cut [17] (fun v wc=>v=.bool cf∧wc=(w.alloc (.cells #[.int .i64 0,.int .i64 0,.bool false,.bool false] 41)).alloc (.cells #[.int .i64 0,.int .i64 0,.bool false,.bool false] 41))
 case first =>
  cases cf
  ·by_cases h0:0<L
   ·have hp:0<(bs l).size:=(by omega);have hb:((bs l)[0]'hp) ≠ 36:=(by rw [byte_bs hp];exact hm2 rfl (by omega));obtain ⟨c,hc⟩:∃ c,((bs l)[0]'hp)=c:=⟨_,rfl⟩;rw [hc] at hb;have hb2:((((bs l)[0]'hp).toNat:Int) == 36)=false:=by
     rw [hc,beq_eq_false_iff_ne];intro q;exact hb (UInt8.toNat_inj.1 (by show c.toNat=36;omega))
    have h0':(0:Int)<(L:Int):=(by omega);clear HA PA hm1 hm2 hi0 HI0 hb hc B2 B4 X;go_wp2_with fail;go_meet
    case rel=>exact ⟨rfl,rfl⟩
   ·have h0':¬ (0:Int)<(L:Int):=(by omega);clear HA PA hm1 hm2 hi0 HI0 B2 B4 X;go_wp2_with fail;go_meet
    case rel=>exact ⟨rfl,rfl⟩
  ·obtain ⟨h0,h36⟩:=hm1 rfl;have hp:0<(bs l).size:=by omega
   have hb2:((((bs l)[0]'hp).toNat:Int) == 36)=true:=by rw [byte_bs hp,h36];decide
   have h0':(0:Int)<(L:Int):=by omega
   clear HA PA hm1 hm2 hi0 HI0 h36 B2 B4 X;go_wp2_with fail;go_meet
   case rel=>exact ⟨rfl,rfl⟩
 case rest =>
 obtain ⟨rfl,rfl⟩:=hcut;clear hm1 hm2;obtain ⟨wa,ha⟩:∃ wa,(w.alloc (.cells #[.int .i64 0,.int .i64 0,.bool false,.bool false] 41)).alloc (.cells #[.int .i64 0,.int .i64 0,.bool false,.bool false] 41)=wa:=⟨_,rfl⟩;rw [ha] at B2 B4 X ⊢;clear ha;go_upto_if 17 with fail;go_cut [5] (fun v wc=>v=.int .i64 i0∧Vec wc (w.heap.size+1) [.int .i64 0,.int .i64 0,.bool false,.bool cf]∧Vec wc w.heap.size [.int .i64 0,.int .i64 0,.bool false,.bool false]∧Ext w wc)
 case first =>
  obtain ⟨⟨m0,m1,m2,m3⟩,f0,f1,f2,f3⟩:=B4.box4;cases cf
  ·obtain rfl:i0=0:=by simpa using hi0
   go_wp2_with fail;go_meet
   case rel=>exact ⟨rfl,B4,B2,X⟩
  ·obtain rfl:i0=1:=by simpa using hi0
   clear HA PA HI0 hdrop0 hLL hR hcf hLR hi0 hi0L;go_wp2_with fail;go_meet
   case rel=>exact ⟨rfl,B4.put 3 (by simp) (.bool true),B2.far (p:=⟨w.heap.size+1,3,none⟩) (by simp) (.bool true),xset X (by simp) _⟩
 case rest =>
 obtain ⟨rfl,B4,B2,X⟩:=hcut;clear hi0;go_wp2_with fail
 go_loop [5] (fun v=>∃ k:Nat,v=.int .i64 ((i0+k:Nat):Int)∧k≤LR∧Hid ((R.take k).all isLet=true)) (fun v=>L - (intOf v).toNat)
 case atStart=>exact ⟨0,rfl,by omega,by simp [Hid]⟩
 case round =>
  obtain ⟨k,rfl,hk,HK⟩:=hrel;obtain ⟨q,hq⟩:∃ q,(decide (k<LR) && isLet (R.getD k 0))=q:=⟨_,rfl⟩;obtain ⟨i1,hi1⟩:∃ i1:Nat,i0+k=i1:=⟨_,rfl⟩;rw [hi1];have L1:(i1:Int)≤(L:Int):=by omega
  go_upto_region 7 with fail;go_cut [37] from 22 to 39 (fun v wd=>v=.bool q∧wd=wc)
  case first =>
   by_cases h0:k<LR
   ·have hp:i0+k<(bs l).size:=(by omega);have hb:=HA.out k h0 hp;have hp1:i1<(bs l).size:=(by omega);obtain ⟨c,hc⟩:∃ c,R.getD k 0=c:=⟨_,rfl⟩;have hb2:(((bs l)[i1]'hp1).toNat:Int)=(c.toNat:Int):=by
     have:((bs l)[i1]'hp1)=c:=(by rw [← hc,← hb];simp [hi1]);rw [this]
    have h0':(i1:Int)<(L:Int):=(by omega);have hq':isLet c=q:=(by rw [← hq,hc];simp [h0]);have c255:=c.toNat_lt;obtain ⟨N,hN⟩:∃ N:Int,(c.toNat:Int)=N:=⟨_,rfl⟩;rw [hN] at hb2;have hq2:(decide (N ≥ 65) && decide (N≤90))=q:=by
     rw [← hq',isLet];by_cases g1:65≤N <;> by_cases g2:N≤90
     all_goals simp [g1,g2]
     all_goals omega
    clear HA PA HI0 hdrop0 hR hcf hLR hb hc hq hq' hN c255 HK B2 B4 X;by_cases g1:N ≥ 65
    ·have g1':decide (N ≥ 65)=true:=decide_eq_true g1;by_cases g2:N≤90
     ·have g2':decide (N≤90)=true:=decide_eq_true g2;rw [g1',g2'] at hq2;go_wp2_with fail;go_meet
      case rel=>exact ⟨by rw [← hq2];rfl,rfl⟩
     ·have g2':decide (N≤90)=false:=decide_eq_false g2;rw [g1',g2'] at hq2;go_wp2_with fail;go_meet
      case rel=>exact ⟨by rw [← hq2];rfl,rfl⟩
    ·have g1':decide (N ≥ 65)=false:=decide_eq_false g1;rw [g1'] at hq2;go_wp2_with fail;go_meet
     case rel=>exact ⟨by rw [← hq2];rfl,rfl⟩
   ·have h0':¬ (i1:Int)<(L:Int):=(by omega);have hq2:q=false:=(by rw [← hq];simp [h0]);clear HA PA HI0 hdrop0 hR hcf hLR hq HK B2 B4 X;go_wp2_with fail;go_meet
    case rel=>exact ⟨by rw [hq2],rfl⟩
  case rest =>
   obtain ⟨rfl,rfl⟩:=hcut;cases q
   ·have hkR:k≤R.length:=(by omega);have HT:R.takeWhile isLet=R.take k∧R.dropWhile isLet=R.drop k:=by
     have h:=all_take HK.out (R.drop k) (fun b hb=>by
      have hk2:k<R.length:=by
       rcases Nat.lt_or_ge k R.length with g | g
       ·exact g
       ·rw [List.drop_of_length_le g] at hb;cases hb
      rw [drop_atA hk2] at hb;simp only [List.head?_cons,Option.some.injEq] at hb;subst hb;simpa [show k<LR by omega] using hq)
     rw [List.take_append_drop] at h;exact ⟨h.2,h.1⟩
    obtain ⟨M,hM⟩:∃ M,R.take k=M:=⟨_,rfl⟩;obtain ⟨D,hD⟩:∃ D,R.drop k=D:=⟨_,rfl⟩;have hdrop1:l.drop i1=D:=(by rw [← hD,hdrop0,List.drop_drop,hi1]);obtain ⟨j,hj,hjD,hdrop2,hm1,hm2⟩:=mark_at D;obtain ⟨U,hU⟩:∃ U,Lib.trimPrefix D [36]=U:=⟨_,rfl⟩;obtain ⟨rf,hrf⟩:∃ b,Lib.hasPrefix D [36]=b:=⟨_,rfl⟩;obtain ⟨col,hcol⟩:∃ v,colV M=v:=⟨_,rfl⟩;obtain ⟨row,hrow⟩:∃ v,numL U=v:=⟨_,rfl⟩;obtain ⟨LD,hLD⟩:∃ n,D.length=n:=⟨_,rfl⟩;have hDL:i1+LD=L:=by
     have:=congrArg List.length hdrop1;rw [List.length_drop] at this;omega
    obtain ⟨i2,hi2⟩:∃ i2:Nat,i1+j=i2:=⟨_,rfl⟩;have hi2L:i2≤L:=(by omega);have HX1:(bs l).extract i0 i1=bs M:=by
     rw [ext_listA,← hdrop0,show i1 - i0=k by omega,hM]
    have HX2:(bs l).extract i2 L=bs U:=by
     rw [ext_listA,← hi2,← List.drop_drop,hdrop1,← hdrop2,hU,List.take_of_length_le];rw [← hU,hdrop2,List.length_drop];omega
    have HP:Hid (∀ r' c' rf' cf',GoodR r' c'→refL r' c' rf' cf'=l→row=r'∧col=c'∧rf=rf'∧cf=cf'):=fun r' c' rf' cf' hg e=>by
     have h:=PA r' c' rf' cf' hg e;rw [hR,HT.1,HT.2,hM,hD,hU,hrow,hcol,hrf,hcf] at h;exact h
    have C1:∀ w',Calls Tryz.prog 144 #[.string (bs M)] w' fun e w''=>e=.returned (.int .i64 col)∧Ext w' w'':=fun w'=>by
     have:=colNumS (bs M) M w' (bs_list M)
     rwa [hcol] at this
    have C2:∀ w',Calls Tryz.prog 39 #[.string (bs U)] w' fun e w''=>e=.returned (.int .i64 row)∧w''=w':=fun w'=>by
     have:=numS (bs U) U w' (bs_list U)
     rwa [hrow] at this
    rw [hrf] at hj hm1 hm2;have HB:Hid (0<LD→∀ hp:i1<(bs l).size,(bs l)[i1]=D.getD 0 0):=fun _ hp=>(by rw [byte_bs hp,show i1=i1+0 from rfl,byte_drop hdrop1]);have b1:(i0:Int)≤(i1:Int):=(by omega);have b2:(i2:Int)≤(L:Int):=(by omega);have b3:(0:Int)≤(i0:Int):=(by omega);have b4:(0:Int)≤(i2:Int):=(by omega);clear HA PA HI0 hdrop0 hR hcf hLR hq HK HT hM hD hdrop1 hdrop2 hU hrf hcol hrow hkR hk hLL hi1;obtain ⟨⟨m0,m1,m2,m3⟩,f0,f1,f2,f3⟩:=B4.box4;go_wp2_with fail;refine (C1 _).mono ?_;rintro e w2 ⟨rfl,e2⟩;have B4:=B4.later e2;have B2:=B2.later e2;have X:=xt X e2;clear C1 e2 HX1 m0 m1 m2 m3 f0 f1 f2 f3;obtain ⟨w3,h3⟩:∃ w3,w2.setCell ⟨w.heap.size+1,1,none⟩ (.int .i64 col)=w3:=⟨_,rfl⟩;obtain ⟨⟨m0,m1,m2,m3⟩,f0,f1,f2,f3⟩:=B4.box4;have B4:=B4.put 1 (by simp) (.int .i64 col);have B2:=B2.far (p:=⟨w.heap.size+1,1,none⟩) (by simp) (.int .i64 col);have X:=xset X (p:=⟨w.heap.size+1,1,none⟩) (by simp) (.int .i64 col);rw [h3] at B4 B2 X;simp only [List.set_cons_zero,List.set_cons_succ] at B4;go_upto_region 10 with fail;clear h3 m0 m1 m2 m3 f0 f1 f2 f3;go_cut [55] (fun v wd=>v=.bool rf∧wd=w3)
    case first =>
     clear B4 B2 X HX2 C2 HP;cases rf
     ·by_cases h0:0<LD
      ·have hp:i1<(bs l).size:=(by omega);have hb:((bs l)[i1]'hp) ≠ 36:=(by rw [HB.out h0 hp];exact hm2 rfl (by omega));obtain ⟨c,hc⟩:∃ c,((bs l)[i1]'hp)=c:=⟨_,rfl⟩;rw [hc] at hb;have hb2:((((bs l)[i1]'hp).toNat:Int) == 36)=false:=by
        rw [hc,beq_eq_false_iff_ne];intro q;exact hb (UInt8.toNat_inj.1 (by show c.toNat=36;omega))
       have h0':(i1:Int)<(L:Int):=(by omega);clear hm1 hm2 hj hb hc HB hi2;go_wp2_with fail;go_meet
       case rel=>exact ⟨rfl,rfl⟩
      ·have h0':¬ (i1:Int)<(L:Int):=(by omega);clear hm1 hm2 hj HB hi2;go_wp2_with fail;go_meet
       case rel=>exact ⟨rfl,rfl⟩
     ·obtain ⟨h0,h36⟩:=hm1 rfl;have hp:i1<(bs l).size:=(by omega);have hb2:((((bs l)[i1]'hp).toNat:Int) == 36)=true:=(by rw [HB.out (by omega) hp,h36];decide);have h0':(i1:Int)<(L:Int):=(by omega);clear hm1 hm2 hj HB hi2 h36;go_wp2_with fail;go_meet
      case rel=>exact ⟨rfl,rfl⟩
    case rest =>
    obtain ⟨rfl,rfl⟩:=hcut;clear hm1 hm2 HB;go_upto_if 55 with fail;go_cut [5] (fun v wd=>v=.int .i64 i2∧Vec wd (w.heap.size+1) [.int .i64 0,.int .i64 col,.bool rf,.bool cf]∧Vec wd w.heap.size [.int .i64 0,.int .i64 0,.bool false,.bool false]∧Ext w wd)
    case first =>
     obtain ⟨⟨m0,m1,m2,m3⟩,f0,f1,f2,f3⟩:=B4.box4;cases rf
     ·obtain rfl:j=0:=(by simpa using hj);obtain rfl:i1=i2:=(by simpa using hi2);clear HX2 C2 HP hj hi2;go_wp2_with fail;go_meet
      case rel=>exact ⟨rfl,B4,B2,X⟩
     ·obtain rfl:j=1:=(by simpa using hj);have hi3:(i1:Int)+1=(i2:Int):=(by omega);clear HX2 C2 HP hj hi2;go_wp2_with fail;go_meet
      case rel=>exact ⟨by first | rfl | rw [hi3],B4.put 2 (by simp) (.bool true),B2.far (p:=⟨w.heap.size+1,2,none⟩) (by simp) (.bool true),xset X (by simp) _⟩
    case rest =>
    obtain ⟨rfl,B4c,B2c,Xc⟩:=hcut;clear hj hi2 hjD B4 B2 X;obtain ⟨w5,h5⟩:∃ w5,wc.setCell ⟨w.heap.size+1,0,none⟩ (.int .i64 row)=w5:=⟨_,rfl⟩;obtain ⟨⟨m0,m1,m2,m3⟩,f0,f1,f2,f3⟩:=B4c.box4;have B4:=B4c.put 0 (by simp) (.int .i64 row);have B2:=B2c.far (p:=⟨w.heap.size+1,0,none⟩) (by simp) (.int .i64 row);have X:=xset Xc (p:=⟨w.heap.size+1,0,none⟩) (by simp) (.int .i64 row);rw [h5] at B4 B2 X;clear B4c B2c Xc;simp only [List.set_cons_zero] at B4;obtain ⟨⟨a0,a1,a2,a3⟩,_⟩:=B4.box4;go_wp2_with fail;refine (C2 _).mono ?_;rintro e w1 ⟨rfl,rfl⟩;go_wp2_with fail;clear h5 m0 m1 m2 m3 f0 f1 f2 f3 HX2 C2;refine (goodRS _ _ _ _ _).mono ?_;rintro e w6 ⟨rfl,e6⟩;have B4:=B4.later e6;have B2:=B2.later e6;have X:=xt X e6;clear e6 a0 a1 a2 a3;obtain ⟨⟨a0,a1,a2,a3⟩,_⟩:=B4.box4;by_cases hg:GoodR row col
    ·rw [(goodRB_iff row col).2 hg];go_wp2_with fail;refine (refTextS row col rf cf _).mono ?_;rintro e w7 ⟨rfl,e7⟩;have HT:Hid (refT row col rf cf=refL row col rf cf):=(by show _=_;unfold refT;rw [if_pos hg]);rw [HT.out];have B4:=B4.later e7;have B2:=B2.later e7;have X:=xt X e7;clear e7 a0 a1 a2 a3;obtain ⟨⟨a0,a1,a2,a3⟩,_⟩:=B4.box4;obtain ⟨⟨m0,m1,m2,m3⟩,f0,f1,f2,f3⟩:=B2.box4;by_cases he:refL row col rf cf=l
     ·have HO:Hid (RefOK l true row col rf cf):=.inl ⟨rfl,hg,he⟩;rw [he];clear hg he HP HT;go_wp2_with fail;exact bodyPost_ret (v:=.tuple #[refV row col rf cf,.bool true]) (by simp [results,Tryz.results126,go_sem,m0,m1,m2,m3]) rfl ⟨true,row,col,rf,cf,rfl,HO.out,Ext.set4 (o:=0) X (Nat.le_refl _) _ _ _ _⟩
     ·have HO:Hid (RefOK l false 0 0 false false):=RefOK.of_parse HP.out (fun q=>he q.2);have hne:((bs (refL row col rf cf)).toList == (bs l).toList)=false:=str_not (fun q=>he (by have:=congrArg (fun s:ByteArray=>s.data.toList) q;exact this));obtain ⟨s6,hs6⟩:∃ s,bs (refL row col rf cf)=s:=⟨_,rfl⟩;obtain ⟨s7,hs7⟩:∃ s,bs l=s:=⟨_,rfl⟩;rw [hs6,hs7] at hne;rw [hs6,hs7];clear hg he HP HT hs6 hs7 zL;go_wp2_with fail;exact bodyPost_ret (v:=.tuple #[refV 0 0 false false,.bool false]) (by simp [results,Tryz.results126,go_sem,m0,m1,m2,m3]) rfl ⟨false,0,0,false,false,rfl,HO.out,Ext.set4 (o:=0) X (Nat.le_refl _) _ _ _ _⟩
    ·have HO:Hid (RefOK l false 0 0 false false):=RefOK.of_parse HP.out (fun q=>hg q.1);have hb:goodRB row col=false:=by
      rw [← Bool.not_eq_true,goodRB_iff];exact hg
     rw [hb];obtain ⟨⟨m0,m1,m2,m3⟩,f0,f1,f2,f3⟩:=B2.box4;clear hg hb HP;go_wp2_with fail;exact bodyPost_ret (v:=.tuple #[refV 0 0 false false,.bool false]) (by simp [results,Tryz.results126,go_sem,m0,m1,m2,m3]) rfl ⟨false,0,0,false,false,rfl,HO.out,Ext.set4 (o:=0) X (Nat.le_refl _) _ _ _ _⟩
   ·have hk1:k<LR:=by
     have:=hq;simp only [Bool.and_eq_true,decide_eq_true_eq] at this;exact this.1
    have HK2:Hid ((R.take (k+1)).all isLet=true):=by
     have:=hq;simp only [Bool.and_eq_true,decide_eq_true_eq] at this;show _=_;rw [take_at (by omega),List.all_append,HK.out,List.all_cons,this.2];rfl
    have h2:((i0+(k+1):Nat):Int)=(i1:Int)+1:=(by omega);clear HA PA HI0 hdrop0 hR hcf hq HK;go_wp2_with fail
    go_round
    case rel=>exact ⟨k+1,by rw [h2],by omega,HK2⟩
    case measure=>simp [intOf];omega
noncomputable def refOkB (l:List UInt8):Bool:=by
 classical
 exact decide (∃ r c rf cf,RefOK l true r c rf cf)
theorem refOk_of {l:List UInt8} {ok:Bool} {r c:Int} {rf cf:Bool} (h:RefOK l ok r c rf cf):ok=refOkB l:=by
 classical
 unfold refOkB;cases ok
 ·symm;refine decide_eq_false ?_;rintro ⟨r',c',rf',cf',h'⟩;unfold RefOK at h h'
  rcases h with ⟨h1,_⟩ | ⟨_,h2⟩
  ·cases h1
  ·rcases h' with ⟨_,h3⟩ | ⟨h3,_⟩
   ·exact h2.2 r' c' rf' cf' h3.1 h3.2
   ·cases h3
 ·symm;exact decide_eq_true ⟨r,c,rf,cf,h⟩
theorem all_takeWhile (P:UInt8→Bool) (l:List UInt8):∀ c ∈ l.takeWhile P,P c=true:=by
 induction l with
 | nil=>intro c hc;cases hc
 | cons x l ih =>
  intro c hc;by_cases h:P x=true
  ·rw [List.takeWhile_cons_of_pos h] at hc
   rcases List.mem_cons.1 hc with rfl | hc
   ·exact h
   ·exact ih c hc
  ·rw [List.takeWhile_cons_of_neg h] at hc;cases hc
noncomputable def nameB (l:List UInt8):Bool:=
 (letZ ((l.getD 0 0).toNat:Int) || (((l.getD 0 0).toNat:Int) == 95)) && !decide (20<l.length) && l.all wordC && !refOkB (l.map upC) && !boolB (l.map upC) && !placeB (l.map upC)
set_option maxRecDepth 8000 in
set_option maxHeartbeats 2000000 in
theorem nameI (l:List UInt8) (w:World) (hl:l.length≤1048576) (LW:LibW w) {w0:World} (IT:ItoaC w0) (X0:Ext w0 w) :
  Calls Tryz.prog 77 #[.string (bs l)] w fun e w'=>e=.returned (.bool (nameB l))∧Ext w w':=by
 have B0:∀ w,Calls Tryz.prog 107 #[.string (bs l),.int .i64 0] w fun e w'=>e=.returned (.int .u8 ((l.getD 0 0).toNat:Int))∧w'=w:=fun w=>byteAtI l 0 w;have WL:∀ w,Calls Tryz.prog 109 #[.string (bs l)] w fun e w'=>e=.returned (.int .i64 ((l.takeWhile wordC).length:Int))∧w'=w:=fun w=>wordLenI l w (by omega);have CP:∀ w,Calls Tryz.prog 79 #[.string (bs l)] w fun e w'=>e=.returned (.string (bs (l.map upC)))∧Ext w w':=fun w=>capsI l w (by omega);have hul:(l.map upC).length≤1048576:=by simpa using hl
 have BL:∀ w,Calls Tryz.prog 75 #[.string (bs (l.map upC))] w fun e w'=>e=.returned (.bool (boolB (l.map upC)))∧w'=w:=fun w=>boolI _ w;have PL:=fun w=>placeI (l.map upC) w (by omega);have RR:=fun w LW X0=>readRefI (l.map upC) w hul LW IT (w0:=w0) X0;have hsz:(bs l).size=l.length:=bs_size l;have hW:((l.takeWhile wordC).length=l.length) ↔ l.all wordC=true:=by
  constructor
  ·intro h;have e:l.takeWhile wordC=l:=by
    have:=(splitW wordC l).1;rw [h,List.take_length] at this;exact this.symm
   rw [← e,List.all_eq_true];exact all_takeWhile wordC l
  ·intro h;exact takeWhile_at wordC l l.length (by rw [List.take_length];exact h) (Nat.le_refl _) (.inl rfl)
 have eN:nameB l=((letZ ((l.getD 0 0).toNat:Int) || (((l.getD 0 0).toNat:Int) == 95)) && !decide (20<l.length) && l.all wordC && !refOkB (l.map upC) && !boolB (l.map upC) && !placeB (l.map upC)):=rfl;rw [eN];clear eN;obtain ⟨s,hs⟩:∃ s,bs l=s:=⟨_,rfl⟩;obtain ⟨u,hu⟩:∃ u,l.map upC=u:=⟨_,rfl⟩;obtain ⟨N,hN⟩:∃ N:Int,((l.getD 0 0).toNat:Int)=N:=⟨_,rfl⟩;obtain ⟨n,hn⟩:∃ n,l.length=n:=⟨_,rfl⟩;obtain ⟨k,hk⟩:∃ k,(l.takeWhile wordC).length=k:=⟨_,rfl⟩;obtain ⟨D,hD⟩:∃ D,l.all wordC=D:=⟨_,rfl⟩;rw [hs] at B0 WL CP hsz ⊢;rw [hu] at CP BL PL RR ⊢;rw [hN] at B0 ⊢;rw [hn] at hsz hW hl ⊢;rw [hk] at WL hW;rw [hD] at hW ⊢;clear hs hu hN hn hk hD hul;obtain ⟨A,hA⟩:∃ A,letZ N=A:=⟨_,rfl⟩;obtain ⟨B,hB⟩:∃ B,(N == 95)=B:=⟨_,rfl⟩;have LT:=fun w=>ltrI N w;rw [hA] at LT ⊢;rw [hB];have hB':(N != 95)=!B:=by rw [← hB];rfl
 obtain ⟨T,hT⟩:∃ T,boolB u=T:=⟨_,rfl⟩;obtain ⟨P,hP⟩:∃ P,placeB u=P:=⟨_,rfl⟩;obtain ⟨Q,hQ⟩:∃ Q,refOkB u=Q:=⟨_,rfl⟩;have RR:∀ w,LibW w→Ext w0 w→Calls Tryz.prog 110 #[.string (bs u)] w fun e w'=>∃ r c rf cf,e=.returned (.tuple #[refV r c rf cf,.bool Q])∧Ext w w':=fun w LW X0=>(RR w LW X0).mono fun e w' ⟨ok,r,c,rf,cf,he,hr,hx⟩=>⟨r,c,rf,cf,by rw [he,refOk_of hr,hQ],hx⟩;rw [hT] at BL ⊢;rw [hP] at PL ⊢;rw [hQ];clear hA hT hP hQ;have hE:(A=true∧B=true)∨(A=true∧B=false)∨(A=false∧B=true)∨(A=false∧B=false):=by cases A <;> cases B <;> simp
 by_cases h20:20<n
 ·have e1:decide (20<n)=true:=decide_eq_true h20;rw [e1];have i1:(20:Int)<(n:Int):=by omega
  clear hW RR CP BL PL WL
  rcases hE with ⟨rfl,rfl⟩ | ⟨rfl,rfl⟩ | ⟨rfl,rfl⟩ | ⟨rfl,rfl⟩
  all_goals
   go_enter Tryz.func77,Tryz.ntmps77;go_wp2_with fail;refine (B0 _).mono ?_;rintro e w1 ⟨rfl,rfl⟩;go_wp2_with fail;refine (LT _).mono ?_;rintro e w2 ⟨rfl,rfl⟩;go_wp2_with fail;go_ret;exact ⟨rfl,xr _⟩
 ·have e1:decide (20<n)=false:=decide_eq_false h20;rw [e1];have i1:(n:Int)≤20:=by omega
  by_cases hAB:A=false∧B=false
  ·obtain ⟨rfl,rfl⟩:=hAB;clear hW RR CP BL PL WL hE;go_enter Tryz.func77,Tryz.ntmps77;go_wp2_with fail;refine (B0 _).mono ?_;rintro e w1 ⟨rfl,rfl⟩;go_wp2_with fail;refine (LT _).mono ?_;rintro e w2 ⟨rfl,rfl⟩;go_wp2_with fail;go_ret;exact ⟨rfl,xr _⟩
  ·have hE:(A=true∧B=true)∨(A=true∧B=false)∨(A=false∧B=true):=by rcases hE with h | h | h | h;exact .inl h;exact .inr (.inl h);exact .inr (.inr h);exact absurd h hAB
   clear hAB;cases D
   ·have hk:¬ k=n:=fun h=>(by have:=hW.1 h;cases this);have k1:((k:Int) == (n:Int))=false:=(by rw [beq_eq_false_iff_ne];omega);have k2:((k:Int) != (n:Int))=true:=(by simp;omega);clear hW hk RR CP BL PL
    rcases hE with ⟨rfl,rfl⟩ | ⟨rfl,rfl⟩ | ⟨rfl,rfl⟩
    all_goals
     go_enter Tryz.func77,Tryz.ntmps77;go_wp2_with fail;refine (B0 _).mono ?_;rintro e w1 ⟨rfl,rfl⟩;go_wp2_with fail;refine (LT _).mono ?_;rintro e w2 ⟨rfl,rfl⟩;go_wp2_with fail;refine (WL _).mono ?_;rintro e w3 ⟨rfl,rfl⟩;go_wp2_with fail;go_ret;exact ⟨rfl,xr _⟩
   ·obtain rfl:k=n:=hW.2 rfl;clear hW
    rcases hE with ⟨rfl,rfl⟩ | ⟨rfl,rfl⟩ | ⟨rfl,rfl⟩
    all_goals
     go_enter Tryz.func77,Tryz.ntmps77;go_wp2_with fail;refine (B0 _).mono ?_;rintro e w1 ⟨rfl,rfl⟩;go_wp2_with fail;refine (LT _).mono ?_;rintro e w2 ⟨rfl,rfl⟩;go_wp2_with fail;refine (WL _).mono ?_;rintro e w3 ⟨rfl,rfl⟩;go_wp2_with fail;refine (CP _).mono ?_;rintro e w4 ⟨rfl,e4⟩;go_wp2_with fail;refine (RR _ (LW.later e4) (xt X0 e4)).mono ?_;rintro e w5 ⟨r,c,rf,cf,rfl,e5⟩;have X5:=xt e4 e5;clear e4 e5;cases Q
     ·cases T
      ·go_wp2_with fail;refine (BL _).mono ?_;rintro e w6 ⟨rfl,h6⟩;rw [h6];clear h6;go_wp2_with fail;refine (PL _).mono ?_;rintro e w7 ⟨rfl,e7⟩;go_wp2_with fail;go_ret;exact ⟨rfl,xt (xa X5 _) e7⟩
      ·go_wp2_with fail;refine (BL _).mono ?_;rintro e w6 ⟨rfl,h6⟩;rw [h6];clear h6;go_wp2_with fail;go_ret;exact ⟨rfl,xa X5 _⟩
     ·go_wp2_with fail;go_ret;exact ⟨rfl,xa X5 _⟩
end Go.Proofs.YtogecaajnjcenaaGreatDoor

