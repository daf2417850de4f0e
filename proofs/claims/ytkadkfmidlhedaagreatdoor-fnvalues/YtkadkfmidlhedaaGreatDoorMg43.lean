/-
  Several texts in one: V6m, X9a.
-/
import Derived.Test.YtkadkfmidlhedaaGreatDoorMg32
import Derived.Test.YtkadkfmidlhedaaGreatDoorMg34
import Derived.Test.YtkadkfmidlhedaaGreatDoorMg42
namespace Go.Proofs.YtkadkfmidlhedaaGreatDoor
open Go.RowKit
def typedV (t:List UInt8):Value:=
 if t == [] then valV 0 false 0 0 [] else
 if (readR t).ok then valV 1 (readR t).neg (readR t).d (readR t).e [] else
 if boolB (t.map upC) then boolW (t.map upC == trueT) else
 if memB errL t then valV 4 false 0 0 t else
 if goodV 2 false 0 0 (Lib.trimPrefix t [39]) then valV 2 false 0 0 (Lib.trimPrefix t [39]) else errW
theorem trimPI (l:List UInt8) (w:World) :
  Calls Tryz.prog 54 #[sV l,.string ⟨#[39]⟩] w fun e w'=>e=.returned (sV (Lib.trimPrefix l [39]))∧w'=w:=trimPrefixD l 39 w
set_option maxRecDepth 8000 in
set_option maxHeartbeats 2000000 in
theorem typedI (t:List UInt8) (w:World) (hl:t.length≤1048576) (hT:Tens w) (hE:ErrTab w) :
  Calls Tryz.prog 12 #[sV t] w fun e w'=>e=.returned (typedV t)∧Ext w w':=by
 obtain ⟨R,hR⟩:∃ R,typedV t=R:=⟨_,rfl⟩;have HR0:Hid (typedV t=R):=hR;rw [hR];clear hR;have X:=x1 w (.cells #[.int .i64 0,.bool false,.int .i64 0,.int .i64 0,sV []] 26);have B2:=vec_made w (valL 0 false 0 0 []) 26;obtain ⟨wb,hb⟩:∃ wb,w.alloc (.cells #[.int .i64 0,.bool false,.int .i64 0,.int .i64 0,sV []] 26)=wb:=⟨_,rfl⟩;change Vec (w.alloc (.cells #[.int .i64 0,.bool false,.int .i64 0,.int .i64 0,sV []] 26)) _ _ at B2;rw [hb] at X B2;go_enter Tryz.func12,Tryz.ntmps12;go_wp2_with fail;clear hb;refine (readI t wb hl (hT.later X)).mono ?_;rintro e w1 ⟨rfl,e1⟩;obtain ⟨ok,rn,rd,re,hq⟩:∃ ok rn rd re,readR t=(⟨ok,rn,rd,re⟩:DR):=⟨_,_,_,_,rfl⟩;have HQ:Hid (readR t=⟨ok,rn,rd,re⟩):=hq;rw [hq];clear hq;go_wp2_with fail;refine (capsI t w1 (by omega)).mono ?_;rintro e w2 ⟨rfl,e2⟩;obtain ⟨u,hu⟩:∃ u,t.map upC=u:=⟨_,rfl⟩;have HU:Hid (t.map upC=u):=hu;rw [hu];clear hu;have Y0:=x1 w2 (.cells #[.bool ok,.bool rn,.int .i64 rd,.int .i64 re] 79);obtain ⟨wz,hz⟩:∃ wz,w2.alloc (.cells #[.bool ok,.bool rn,.int .i64 rd,.int .i64 re] 79)=wz:=⟨_,rfl⟩;have Br:=vec_made w2 [.bool ok,.bool rn,.int .i64 rd,.int .i64 re] 79;change Vec (w2.alloc (.cells #[.bool ok,.bool rn,.int .i64 rd,.int .i64 re] 79)) _ _ at Br;rw [hz] at Y0 Br;have r0:=(Br 0 _ rfl).1;have r1:=(Br 1 _ rfl).1;have r2:=(Br 2 _ rfl).1;have r3:=(Br 3 _ rfl).1;have D2:=((B2.later e1).later e2).later Y0;have XD:=xt (xt (xt X e1) e2) Y0;have TD:=hT.later XD;have ED:=hE.later XD;clear B2 X hT hE e1 e2 Y0;obtain ⟨p,hp⟩:∃ p,(t == [])=p:=⟨_,rfl⟩;cases p
 ·cases ok
  ·obtain ⟨y,hy⟩:∃ y,boolB u=y:=⟨_,rfl⟩;go_wp2_with fail;clear r0 r1 r2 r3 hz Br;refine (boolI u wz).mono ?_;rintro e w9 ⟨rfl,rfl⟩;have HY:Hid (boolB u=y):=hy;rw [hy];clear hy;cases y
   ·go_wp2_with fail;refine (errI t _ ED).mono ?_;rintro e w10 ⟨rfl,rfl⟩;obtain ⟨z,hzz⟩:∃ z,memB errL t=z:=⟨_,rfl⟩;have HZ:Hid (memB errL t=z):=hzz;rw [hzz];clear hzz;cases z
    ·have HRG0:Hid ((if goodV 2 false 0 0 (Lib.trimPrefix t [39]) then valV 2 false 0 0 (Lib.trimPrefix t [39]) else errW)=R):=(by show _=_;rw [← HR0.out];simp [typedV,hp,HQ.out,HU.out,HY.out,HZ.out]);clear hp;go_wp2_with fail;refine (trimPI t _).mono ?_;rintro e w11 ⟨rfl,rfl⟩;have hlv:(Lib.trimPrefix t [39]).length≤2000000:=(by have:=trimPrefix_le t [39];omega);obtain ⟨v,hv⟩:∃ v,Lib.trimPrefix t [39]=v:=⟨_,rfl⟩;have HRG:Hid ((if goodV 2 false 0 0 v then valV 2 false 0 0 v else errW)=R):=(by show _=_;rw [← hv];exact HRG0.out);rw [hv] at hlv ⊢;clear hv HRG0;go_wp2_with fail;refine (textVI v _).mono ?_;rintro e wt ⟨rfl,et⟩;obtain ⟨wv,hwv⟩:∃ wv,wt.alloc (.cells #[.int .i64 2,.bool false,.int .i64 0,.int .i64 0,sV v] 26)=wv:=⟨_,rfl⟩;have Yv:=x1 wt (.cells #[.int .i64 2,.bool false,.int .i64 0,.int .i64 0,sV v] 26);have Bv:=vec_made wt (valL 2 false 0 0 v) 26;change Vec (wt.alloc (.cells #[.int .i64 2,.bool false,.int .i64 0,.int .i64 0,sV v] 26)) _ _ at Bv;rw [hwv] at Yv Bv;have Dv:=((D2).later et).later Yv;have Xv:=xt (xt (XD) et) Yv;have a0:=(Bv 0 _ rfl).1;have a1:=(Bv 1 _ rfl).1;have a2:=(Bv 2 _ rfl).1;have a3:=(Bv 3 _ rfl).1;have a4:=(Bv 4 _ rfl).1;go_wp2_with fail;clear hwv a0 a1 a2 a3 a4;refine (goodVI 2 false 0 0 v wv hlv (by decide) (by decide) (TD.later (xt et Yv)) (ED.later (xt et Yv))).mono ?_;rintro e wg ⟨rfl,eg⟩;obtain ⟨g,hg⟩:∃ g,goodV 2 false 0 0 v=g:=⟨_,rfl⟩;rw [hg] at HRG ⊢;clear hg;cases g
     ·have HR:Hid (errW=R):=HRG;go_wp2_with fail;refine (errVI errT wg).mono ?_;rintro e we ⟨rfl,ee⟩;have FV:=(Dv.later eg).later ee;have FG:=FV.put5 (.int .i64 4) (.bool false) (.int .i64 0) (.int .i64 0) (sV errT);have FX:=Ext.setL (b:=w.heap.size) (by omega) [.int .i64 4,.bool false,.int .i64 0,.int .i64 0,sV errT] 0 (xt (xt Xv eg) ee);obtain ⟨wy,hy⟩:∃ wy,setL we (w.heap.size) 0 [.int .i64 4,.bool false,.int .i64 0,.int .i64 0,sV errT]=wy:=⟨_,rfl⟩;rw [hy] at FG FX;have hy:(((((we.setCell ⟨w.heap.size,0,none⟩ (.int .i64 4)).setCell ⟨w.heap.size,1,none⟩ (.bool false)).setCell ⟨w.heap.size,2,none⟩ (.int .i64 0)).setCell ⟨w.heap.size,3,none⟩ (.int .i64 0)).setCell ⟨w.heap.size,4,none⟩ (sV errT))=wy:=hy;have b0:=(FV 0 _ rfl).1;have b1:=(FV 1 _ rfl).1;have b2:=(FV 2 _ rfl).1;have b3:=(FV 3 _ rfl).1;have b4:=(FV 4 _ rfl).1;have fb0:=(FV 0 _ rfl).2;have fb1:=(FV 1 _ rfl).2;have fb2:=(FV 2 _ rfl).2;have fb3:=(FV 3 _ rfl).2;have fb4:=(FV 4 _ rfl).2;have fd0:=(FG 0 _ rfl).1;have fd1:=(FG 1 _ rfl).1;have fd2:=(FG 2 _ rfl).1;have fd3:=(FG 3 _ rfl).1;have fd4:=(FG 4 _ rfl).1;clear FV FG;go_wp2_with fail;exact bodyPost_ret (v:=errW) (by simp [results,Tryz.results12,go_sem,fd0,fd1,fd2,fd3,fd4]) rfl ⟨congrArg Ending.returned HR.out,FX⟩
     ·have HR:Hid (valV 2 false 0 0 v=R):=HRG;have Bw:=Bv.later eg;have a0:=(Bw 0 _ rfl).1;have a1:=(Bw 1 _ rfl).1;have a2:=(Bw 2 _ rfl).1;have a3:=(Bw 3 _ rfl).1;have a4:=(Bw 4 _ rfl).1;have FV:=Dv.later eg;have FG:=FV.put5 (.int .i64 2) (.bool false) (.int .i64 0) (.int .i64 0) (sV v);have FX:=Ext.setL (b:=w.heap.size) (by omega) [.int .i64 2,.bool false,.int .i64 0,.int .i64 0,sV v] 0 (xt Xv eg);obtain ⟨wy,hy⟩:∃ wy,setL wg (w.heap.size) 0 [.int .i64 2,.bool false,.int .i64 0,.int .i64 0,sV v]=wy:=⟨_,rfl⟩;rw [hy] at FG FX;have hy:(((((wg.setCell ⟨w.heap.size,0,none⟩ (.int .i64 2)).setCell ⟨w.heap.size,1,none⟩ (.bool false)).setCell ⟨w.heap.size,2,none⟩ (.int .i64 0)).setCell ⟨w.heap.size,3,none⟩ (.int .i64 0)).setCell ⟨w.heap.size,4,none⟩ (sV v))=wy:=hy;have b0:=(FV 0 _ rfl).1;have b1:=(FV 1 _ rfl).1;have b2:=(FV 2 _ rfl).1;have b3:=(FV 3 _ rfl).1;have b4:=(FV 4 _ rfl).1;have fb0:=(FV 0 _ rfl).2;have fb1:=(FV 1 _ rfl).2;have fb2:=(FV 2 _ rfl).2;have fb3:=(FV 3 _ rfl).2;have fb4:=(FV 4 _ rfl).2;have fd0:=(FG 0 _ rfl).1;have fd1:=(FG 1 _ rfl).1;have fd2:=(FG 2 _ rfl).1;have fd3:=(FG 3 _ rfl).1;have fd4:=(FG 4 _ rfl).1;clear FV FG;go_wp2_with fail;exact bodyPost_ret (v:=valV 2 false 0 0 v) (by simp [results,Tryz.results12,go_sem,fd0,fd1,fd2,fd3,fd4]) rfl ⟨congrArg Ending.returned HR.out,FX⟩
    ·have HR:Hid (valV 4 false 0 0 t=R):=(by show _=_;rw [← HR0.out];simp [typedV,hp,HQ.out,HU.out,HY.out,HZ.out]);clear hp;go_wp2_with fail;refine (errVI t _).mono ?_;rintro e w12 ⟨rfl,e12⟩;have FV:=D2.later e12;have FG:=FV.put5 (.int .i64 4) (.bool false) (.int .i64 0) (.int .i64 0) (sV t);have FX:=Ext.setL (b:=w.heap.size) (by omega) [.int .i64 4,.bool false,.int .i64 0,.int .i64 0,sV t] 0 (xt XD e12);obtain ⟨wy,hy⟩:∃ wy,setL w12 (w.heap.size) 0 [.int .i64 4,.bool false,.int .i64 0,.int .i64 0,sV t]=wy:=⟨_,rfl⟩;rw [hy] at FG FX;have hy:(((((w12.setCell ⟨w.heap.size,0,none⟩ (.int .i64 4)).setCell ⟨w.heap.size,1,none⟩ (.bool false)).setCell ⟨w.heap.size,2,none⟩ (.int .i64 0)).setCell ⟨w.heap.size,3,none⟩ (.int .i64 0)).setCell ⟨w.heap.size,4,none⟩ (sV t))=wy:=hy;have b0:=(FV 0 _ rfl).1;have b1:=(FV 1 _ rfl).1;have b2:=(FV 2 _ rfl).1;have b3:=(FV 3 _ rfl).1;have b4:=(FV 4 _ rfl).1;have fb0:=(FV 0 _ rfl).2;have fb1:=(FV 1 _ rfl).2;have fb2:=(FV 2 _ rfl).2;have fb3:=(FV 3 _ rfl).2;have fb4:=(FV 4 _ rfl).2;have fd0:=(FG 0 _ rfl).1;have fd1:=(FG 1 _ rfl).1;have fd2:=(FG 2 _ rfl).1;have fd3:=(FG 3 _ rfl).1;have fd4:=(FG 4 _ rfl).1;clear FV FG;go_wp2_with fail;exact bodyPost_ret (v:=valV 4 false 0 0 t) (by simp [results,Tryz.results12,go_sem,fd0,fd1,fd2,fd3,fd4]) rfl ⟨congrArg Ending.returned HR.out,FX⟩
   ·obtain ⟨o,ho⟩:∃ o,(u == [84,82,85,69])=o:=⟨_,rfl⟩;cases o
    ·have HR:Hid (boolW false=R):=(by show _=_;rw [← HR0.out];simp [typedV,hp,HQ.out,HU.out,HY.out,ho]);clear hp;go_wp2_with fail;clear ho;refine (boolVI false _).mono ?_;rintro e w12 ⟨rfl,e12⟩;have FV:=D2.later e12;have FG:=FV.put5 (.int .i64 3) (.bool false) (.int .i64 0) (.int .i64 0) (sV falseT);have FX:=Ext.setL (b:=w.heap.size) (by omega) [.int .i64 3,.bool false,.int .i64 0,.int .i64 0,sV falseT] 0 (xt XD e12);obtain ⟨wy,hy⟩:∃ wy,setL w12 (w.heap.size) 0 [.int .i64 3,.bool false,.int .i64 0,.int .i64 0,sV falseT]=wy:=⟨_,rfl⟩;rw [hy] at FG FX;have hy:(((((w12.setCell ⟨w.heap.size,0,none⟩ (.int .i64 3)).setCell ⟨w.heap.size,1,none⟩ (.bool false)).setCell ⟨w.heap.size,2,none⟩ (.int .i64 0)).setCell ⟨w.heap.size,3,none⟩ (.int .i64 0)).setCell ⟨w.heap.size,4,none⟩ (sV falseT))=wy:=hy;have b0:=(FV 0 _ rfl).1;have b1:=(FV 1 _ rfl).1;have b2:=(FV 2 _ rfl).1;have b3:=(FV 3 _ rfl).1;have b4:=(FV 4 _ rfl).1;have fb0:=(FV 0 _ rfl).2;have fb1:=(FV 1 _ rfl).2;have fb2:=(FV 2 _ rfl).2;have fb3:=(FV 3 _ rfl).2;have fb4:=(FV 4 _ rfl).2;have fd0:=(FG 0 _ rfl).1;have fd1:=(FG 1 _ rfl).1;have fd2:=(FG 2 _ rfl).1;have fd3:=(FG 3 _ rfl).1;have fd4:=(FG 4 _ rfl).1;clear FV FG;go_wp2_with fail;exact bodyPost_ret (v:=boolW false) (by simp [results,Tryz.results12,go_sem,fd0,fd1,fd2,fd3,fd4]) rfl ⟨congrArg Ending.returned HR.out,FX⟩
    ·have HR:Hid (boolW true=R):=(by show _=_;rw [← HR0.out];simp [typedV,hp,HQ.out,HU.out,HY.out,ho]);clear hp;go_wp2_with fail;clear ho;refine (boolVI true _).mono ?_;rintro e w12 ⟨rfl,e12⟩;have FV:=D2.later e12;have FG:=FV.put5 (.int .i64 3) (.bool false) (.int .i64 0) (.int .i64 0) (sV trueT);have FX:=Ext.setL (b:=w.heap.size) (by omega) [.int .i64 3,.bool false,.int .i64 0,.int .i64 0,sV trueT] 0 (xt XD e12);obtain ⟨wy,hy⟩:∃ wy,setL w12 (w.heap.size) 0 [.int .i64 3,.bool false,.int .i64 0,.int .i64 0,sV trueT]=wy:=⟨_,rfl⟩;rw [hy] at FG FX;have hy:(((((w12.setCell ⟨w.heap.size,0,none⟩ (.int .i64 3)).setCell ⟨w.heap.size,1,none⟩ (.bool false)).setCell ⟨w.heap.size,2,none⟩ (.int .i64 0)).setCell ⟨w.heap.size,3,none⟩ (.int .i64 0)).setCell ⟨w.heap.size,4,none⟩ (sV trueT))=wy:=hy;have b0:=(FV 0 _ rfl).1;have b1:=(FV 1 _ rfl).1;have b2:=(FV 2 _ rfl).1;have b3:=(FV 3 _ rfl).1;have b4:=(FV 4 _ rfl).1;have fb0:=(FV 0 _ rfl).2;have fb1:=(FV 1 _ rfl).2;have fb2:=(FV 2 _ rfl).2;have fb3:=(FV 3 _ rfl).2;have fb4:=(FV 4 _ rfl).2;have fd0:=(FG 0 _ rfl).1;have fd1:=(FG 1 _ rfl).1;have fd2:=(FG 2 _ rfl).1;have fd3:=(FG 3 _ rfl).1;have fd4:=(FG 4 _ rfl).1;clear FV FG;go_wp2_with fail;exact bodyPost_ret (v:=boolW true) (by simp [results,Tryz.results12,go_sem,fd0,fd1,fd2,fd3,fd4]) rfl ⟨congrArg Ending.returned HR.out,FX⟩
  ·have HR:Hid (valV 1 rn rd re []=R):=by show _=_;rw [← HR0.out];simp [typedV,hp,HQ.out]
   go_wp2_with fail;clear hp r0 r1 r2 r3 hz Br;refine (numVI rn rd re wz).mono ?_;rintro e w8 ⟨rfl,e8⟩;have FV:=D2.later e8;have FG:=FV.put5 (.int .i64 1) (.bool rn) (.int .i64 rd) (.int .i64 re) (sV []);have FX:=Ext.setL (b:=w.heap.size) (by omega) [.int .i64 1,.bool rn,.int .i64 rd,.int .i64 re,sV []] 0 (xt XD e8);obtain ⟨wy,hy⟩:∃ wy,setL w8 (w.heap.size) 0 [.int .i64 1,.bool rn,.int .i64 rd,.int .i64 re,sV []]=wy:=⟨_,rfl⟩;rw [hy] at FG FX;have hy:(((((w8.setCell ⟨w.heap.size,0,none⟩ (.int .i64 1)).setCell ⟨w.heap.size,1,none⟩ (.bool rn)).setCell ⟨w.heap.size,2,none⟩ (.int .i64 rd)).setCell ⟨w.heap.size,3,none⟩ (.int .i64 re)).setCell ⟨w.heap.size,4,none⟩ (sV []))=wy:=hy;have b0:=(FV 0 _ rfl).1;have b1:=(FV 1 _ rfl).1;have b2:=(FV 2 _ rfl).1;have b3:=(FV 3 _ rfl).1;have b4:=(FV 4 _ rfl).1;have fb0:=(FV 0 _ rfl).2;have fb1:=(FV 1 _ rfl).2;have fb2:=(FV 2 _ rfl).2;have fb3:=(FV 3 _ rfl).2;have fb4:=(FV 4 _ rfl).2;have fd0:=(FG 0 _ rfl).1;have fd1:=(FG 1 _ rfl).1;have fd2:=(FG 2 _ rfl).1;have fd3:=(FG 3 _ rfl).1;have fd4:=(FG 4 _ rfl).1;clear FV FG;go_wp2_with fail;exact bodyPost_ret (v:=valV 1 rn rd re []) (by simp [results,Tryz.results12,go_sem,fd0,fd1,fd2,fd3,fd4]) rfl ⟨congrArg Ending.returned HR.out,FX⟩
 ·have HR:Hid (valV 0 false 0 0 []=R):=by show _=_;rw [← HR0.out];simp [typedV,hp]
  clear r0 r1 r2 r3 Br;have FV:=D2;have FG:=FV.put5 (.int .i64 0) (.bool false) (.int .i64 0) (.int .i64 0) (sV []);have FX:=Ext.setL (b:=w.heap.size) (by omega) [.int .i64 0,.bool false,.int .i64 0,.int .i64 0,sV []] 0 (XD);obtain ⟨wy,hy⟩:∃ wy,setL wz (w.heap.size) 0 [.int .i64 0,.bool false,.int .i64 0,.int .i64 0,sV []]=wy:=⟨_,rfl⟩;rw [hy] at FG FX;have hy:(((((wz.setCell ⟨w.heap.size,0,none⟩ (.int .i64 0)).setCell ⟨w.heap.size,1,none⟩ (.bool false)).setCell ⟨w.heap.size,2,none⟩ (.int .i64 0)).setCell ⟨w.heap.size,3,none⟩ (.int .i64 0)).setCell ⟨w.heap.size,4,none⟩ (sV []))=wy:=hy;have b0:=(FV 0 _ rfl).1;have b1:=(FV 1 _ rfl).1;have b2:=(FV 2 _ rfl).1;have b3:=(FV 3 _ rfl).1;have b4:=(FV 4 _ rfl).1;have fb0:=(FV 0 _ rfl).2;have fb1:=(FV 1 _ rfl).2;have fb2:=(FV 2 _ rfl).2;have fb3:=(FV 3 _ rfl).2;have fb4:=(FV 4 _ rfl).2;have fd0:=(FG 0 _ rfl).1;have fd1:=(FG 1 _ rfl).1;have fd2:=(FG 2 _ rfl).1;have fd3:=(FG 3 _ rfl).1;have fd4:=(FG 4 _ rfl).1;clear FV FG;go_wp2_with fail;exact bodyPost_ret (v:=valV 0 false 0 0 []) (by simp [results,Tryz.results12,go_sem,fd0,fd1,fd2,fd3,fd4]) rfl ⟨congrArg Ending.returned HR.out,FX⟩
theorem bytes_swap:∀ (a b:List UInt8),Lib.compareBytes b a = -Lib.compareBytes a b
 | [],[]=>rfl
 | [],_ :: _=>rfl
 | _ :: _,[]=>rfl
 | x :: a,y :: b=>by
  unfold Lib.compareBytes;by_cases h1:x<y
  ·have h2:¬ y<x:=fun h=>absurd (UInt8.lt_trans h1 h) (UInt8.lt_irrefl _);simp only [h1,h2,if_true,if_false];rfl
  ·by_cases h2:y<x
   ·simp only [h1,h2,if_true,if_false]
   ·simp only [h1,h2,if_false];exact bytes_swap a b
theorem cmpI_swap (a b:Int):cmpI b a = -cmpI a b:=by unfold cmpI;split <;> (try split) <;> (try split) <;> (try split) <;> omega
theorem cmpR_swap (k:Int) (n:Bool) (d x:Int) (t:List UInt8) (k':Int) (n':Bool) (d' x':Int) (t':List UInt8):cmpR k' n' d' x' t' k n d x t = -cmpR k n d x t k' n' d' x' t':=by
 unfold cmpR;by_cases h:k=k'
 ·subst h;simp only [ne_eq,not_true_eq_false,if_false,Int.min_comm x' x];by_cases h1:k=1
  ·rw [if_pos h1,if_pos h1];exact cmpI_swap _ _
  ·rw [if_neg h1,if_neg h1];by_cases h2:k=2
   ·rw [if_pos h2,if_pos h2];exact bytes_swap _ _
   ·rw [if_neg h2,if_neg h2];by_cases h3:k=3
    ·rw [if_pos h3,if_pos h3];exact bytes_swap _ _
    ·rw [if_neg h3,if_neg h3];rfl
 ·rw [if_pos h,if_pos (fun e=>h e.symm)];by_cases h1:k<k'
  ·rw [if_pos h1,if_neg (by omega)];rfl
  ·rw [if_neg h1,if_pos (by omega)]
theorem compareV_swap (k:Int) (n:Bool) (d x:Int) (t:List UInt8) (k':Int) (n':Bool) (d' x':Int) (t':List UInt8) (h:compareV k n d x t k' n' d' x' t' ≠ 2):compareV k' n' d' x' t' k n d x t = -compareV k n d x t k' n' d' x' t':=by
 unfold compareV at h ⊢;by_cases hg:goodV k n d x t=true∧goodV k' n' d' x' t'=true∧k ≠ 4∧k' ≠ 4
 ·rw [if_pos hg,if_pos ⟨hg.2.1,hg.1,hg.2.2.2,hg.2.2.1⟩];exact cmpR_swap _ _ _ _ _ _ _ _ _ _
 ·rw [if_neg hg] at h;exact absurd rfl h
theorem dec_all (u:Nat):(Lib.decDigits u).all isD=true:=by
 induction u using Nat.strongRecOn with
 | ind u ih =>
  unfold Lib.decDigits
  split
  ·rename_i h;simp only [List.all_cons,List.all_nil,Bool.and_true];unfold isD;simp;omega
  ·rename_i h;rw [List.all_append,ih (u / 10) (by omega)];simp only [List.all_cons,List.all_nil,Bool.and_true,Bool.true_and];unfold isD;simp;omega
theorem dec_val (u:Nat):dvN (Lib.decDigits u)=u:=by
 induction u using Nat.strongRecOn with
 | ind u ih =>
  unfold Lib.decDigits
  split
  ·rename_i h;simp [dvN];omega
  ·rename_i h;rw [dvN_snoc,ih (u / 10) (by omega)];have:(UInt8.ofNat (48+u % 10)).toNat=48+u % 10:=by rw [UInt8.toNat_ofNat'];omega
   rw [this];omega
theorem take_digits {D:List UInt8} (h:D.all isD=true) (r:List UInt8) (hr:∀ c m,r=c :: m→isD c=false):(D++r).takeWhile isD=D∧(D++r).dropWhile isD=r:=by
 induction D with
 | nil =>
  cases r with
  | nil=>exact ⟨rfl,rfl⟩
  | cons c m=>rw [List.nil_append,List.takeWhile_cons,List.dropWhile_cons,hr c m rfl];exact ⟨rfl,rfl⟩
 | cons c D ih =>
  rw [List.all_cons,Bool.and_eq_true] at h;obtain ⟨i1,i2⟩:=ih h.2;rw [List.cons_append,List.takeWhile_cons,List.dropWhile_cons,h.1];exact ⟨by simp [i1],by simpa using i2⟩
theorem rep_all (k:Nat):(List.replicate k (48:UInt8)).all isD=true:=by
 rw [List.all_eq_true];intro c hc;rw [(List.mem_replicate.1 hc).2];decide
theorem rep_val (k:Nat):dvN (List.replicate k (48:UInt8))=0:=by
 induction k with
 | zero=>rfl
 | succ k ih =>
  rw [show List.replicate (k+1) (48:UInt8)=[48]++List.replicate k 48 from rfl,dvN_app,ih];simp [dvN]
theorem pre_no {E:List UInt8} {p:UInt8} (h:∀ c m,E=c :: m→c ≠ p):Lib.hasPrefix E [p]=false:=by
 cases E with
 | nil=>rfl
 | cons c m =>
  have:=h c m rfl;have hb:(p == c)=false:=by simpa using fun e:p=c=>this e.symm
  show (p == c && List.isPrefixOf [] m)=false;rw [hb];rfl
theorem pre_yes (p:UInt8) (m:List UInt8):Lib.hasPrefix (p :: m) [p]=true∧Lib.trimPrefix (p :: m) [p]=m:=by
 constructor
 ·simp [Lib.hasPrefix]
 ·simp [Lib.trimPrefix,Lib.hasPrefix]
theorem mant_whole (n:Bool) {A E:List UInt8} {q:Int} (hA:A.all isD=true) (h0:A ≠ []) (hE:expR E=some q) (hh:∀ c m,E=c :: m→isD c=false∧c ≠ 46):mantR n (A++E)=putR n (dvN A) q false:=by
 obtain ⟨t1,t2⟩:=take_digits hA E (fun c m e=>(hh c m e).1);have hp:Lib.hasPrefix E [46]=false:=pre_no (fun c m e=>(hh c m e).2);unfold mantR;simp only [t1,t2,hp,Bool.false_eq_true,if_false,hE,false_and,or_false,h0]
theorem mant_point (n:Bool) {A F E:List UInt8} {q:Int} (hA:A.all isD=true) (h0:A ≠ []) (hF:F.all isD=true) (f0:F ≠ []) (hE:expR E=some q) (hh:∀ c m,E=c :: m→isD c=false):mantR n (A++46 :: (F++E))=putR n (dvN (A++F)) (q - F.length) false:=by
 obtain ⟨t1,t2⟩:=take_digits hA (46 :: (F++E)) (fun c m e=>by cases e;decide);obtain ⟨p1,p2⟩:=pre_yes 46 (F++E);obtain ⟨u1,u2⟩:=take_digits hF E hh;unfold mantR;simp only [t1,t2,p1,p2,u1,u2,if_true,hE,h0,f0,true_and,or_self,if_false]
theorem exp_minus (m:Nat) (h:m<10000):expR (69 :: 45 :: Lib.decDigits m)=some (-(m:Int)):=by
 obtain ⟨p1,p2⟩:=pre_yes 45 (Lib.decDigits m);have ha:=dec_all m;obtain ⟨t1,t2⟩:=take_digits ha [] (fun c m e=>by cases e);rw [List.append_nil] at t1 t2;have hl:=dec_len_le 3 m (by omega);have hn:Lib.decDigits m ≠ []:=fun e=>by rw [e] at hl;simp at hl
 unfold expR;simp only [true_or,if_true,p1,p2];unfold expT;simp only [t1,t2,hn,false_or,ne_eq,not_true_eq_false,or_false,if_true,dec_val];rw [if_neg (by omega)]
theorem exp_plus (m:Nat) (h:m<10000):expR (69 :: 43 :: Lib.decDigits m)=some (m:Int):=by
 obtain ⟨p1,p2⟩:=pre_yes 43 (Lib.decDigits m);have p3:Lib.hasPrefix (43 :: Lib.decDigits m) [45]=false:=pre_no (fun c m e=>by cases e;decide);have ha:=dec_all m;obtain ⟨t1,t2⟩:=take_digits ha [] (fun c m e=>by cases e);rw [List.append_nil] at t1 t2;have hl:=dec_len_le 3 m (by omega);have hn:Lib.decDigits m ≠ []:=fun e=>by rw [e] at hl;simp at hl
 unfold expR;simp only [true_or,if_true,p3,p2,Bool.false_eq_true,if_false];unfold expT;simp only [t1,t2,hn,false_or,ne_eq,not_true_eq_false,or_false,Bool.false_eq_true,if_false,dec_val];rw [if_neg (by omega)]
theorem allD_take {D:List UInt8} (h:D.all isD=true) (k:Nat):(D.take k).all isD=true∧(D.drop k).all isD=true:=by
 rw [← List.take_append_drop k D,List.all_append,Bool.and_eq_true] at h;exact h
theorem mant_size (n:Bool) (u:Nat) (x:Int) (h1:u % 10 ≠ 0) (h2:u<1000000000000000) (x0 : -300≤x) (x1:x≤300):mantR n (sizeT (Lib.decDigits u) x)=⟨true,n,u,x⟩:=by
 have hD:=dec_all u;have hV:=dec_val u;have hl:=dec_len_le 14 u (by omega);have G:=fun e:Int=>put_good n u e h1 h2;obtain ⟨D,hDe⟩:∃ D,Lib.decDigits u=D:=⟨_,rfl⟩;rw [hDe] at hD hV hl ⊢;have hn:D ≠ []:=fun e=>by rw [e] at hl;simp at hl
 unfold sizeT;by_cases c1:0≤x∧(D.length:Int) - 1+x<15
 ·rw [if_pos c1];have hA:(D++List.replicate x.toNat 48).all isD=true:=by rw [List.all_append,hD,rep_all];rfl
  have:=mant_whole n (E:=[]) (q:=0) hA (by simp [hn]) rfl (fun c m e=>by cases e);rw [List.append_nil] at this;rw [this,dvN_app,rep_val,List.length_replicate,hV,Nat.add_zero,put_scale,show (0:Int)+(x.toNat:Int)=x by omega];exact G x x0 x1
 ·rw [if_neg c1];by_cases c2:x<0∧0≤(D.length:Int) - 1+x
  ·rw [if_pos c2];obtain ⟨k,hk⟩:∃ k,((D.length:Int) - 1+x+1).toNat=k:=⟨_,rfl⟩;rw [hk];obtain ⟨a1,a2⟩:=allD_take hD k;have:=mant_point n (A:=D.take k) (F:=D.drop k) (E:=[]) (q:=0) a1 (fun e=>by have:=congrArg List.length e;rw [List.length_take,List.length_nil] at this;omega) a2 (fun e=>by have:=congrArg List.length e;rw [List.length_drop,List.length_nil] at this;omega) rfl (fun c m e=>by cases e);rw [List.append_nil] at this;rw [this,List.take_append_drop,hV,List.length_drop,show (0:Int) - ((D.length - k:Nat):Int)=x by omega];exact G x x0 x1
  ·rw [if_neg c2];by_cases c3:x<0 ∧ -5≤(D.length:Int) - 1+x
   ·rw [if_pos c3];obtain ⟨k,hk⟩:∃ k,(-((D.length:Int) - 1+x) - 1).toNat=k:=⟨_,rfl⟩;rw [hk];have hA:(List.replicate k 48++D).all isD=true:=(by rw [List.all_append,hD,rep_all];rfl);have:=mant_point n (A:=[48]) (F:=List.replicate k 48++D) (E:=[]) (q:=0) (by decide) (by simp) hA (by simp [hn]) rfl (fun c m e=>by cases e);rw [List.append_nil] at this;rw [show (48:UInt8) :: 46 :: (List.replicate k 48++D)=[48]++46 :: (List.replicate k 48++D) from rfl,this,dvN_app,dvN_app,rep_val,hV,show dvN [48]=0 from rfl,List.length_append,List.length_replicate];simp only [Nat.zero_mul,Nat.zero_add];rw [show (0:Int) - ((k+D.length:Nat):Int)=x by omega];exact G x x0 x1
   ·rw [if_neg c3];obtain ⟨E,hE,hx,hh⟩:∃ E,(if (D.length:Int) - 1+x<0 then 69 :: 45 :: Lib.decDigits (-((D.length:Int) - 1+x)).toNat else 69 :: 43 :: Lib.decDigits ((D.length:Int) - 1+x).toNat)=E∧expR E=some ((D.length:Int) - 1+x)∧∀ c m,E=c :: m→isD c=false∧c ≠ 46:=by
     by_cases cn:(D.length:Int) - 1+x<0
     ·refine ⟨_,if_pos cn,?_,fun c m e=>by cases e;decide⟩;rw [exp_minus _ (by omega)]
      congr 1
      omega
     ·refine ⟨_,if_neg cn,?_,fun c m e=>by cases e;decide⟩;rw [exp_plus _ (by omega)]
      congr 1
      omega
    rw [hE];obtain ⟨a1,a2⟩:=allD_take hD 1;by_cases cl:1<D.length
    ·rw [if_pos cl];have:=mant_point n (A:=D.take 1) (F:=D.drop 1) a1 (fun e=>by have:=congrArg List.length e;rw [List.length_take,List.length_nil] at this;omega) a2 (fun e=>by have:=congrArg List.length e;rw [List.length_drop,List.length_nil] at this;omega) hx (fun c m e=>(hh c m e).1);rw [List.append_assoc,List.cons_append,this,List.take_append_drop,hV,List.length_drop,show (D.length:Int) - 1+x - ((D.length - 1:Nat):Int)=x by omega];exact G x x0 x1
    ·rw [if_neg cl,List.append_nil,List.take_of_length_le (by omega),mant_whole n hD hn hx hh,hV,show (D.length:Int) - 1+x=x by omega];exact G x x0 x1
theorem size_head (u:Nat) (x:Int):∃ c m,sizeT (Lib.decDigits u) x=c :: m∧isD c=true:=by
 have hD:=dec_all u;cases hDe:Lib.decDigits u with
 | nil=>exact absurd hDe (fun e=>by have:=Lib.decDigits_length u;rw [e] at this;have:=dec_val u;rw [e] at this;simp [dvN] at this;subst this;rw [Lib.decDigits_one (by omega)] at e;cases e)
 | cons c D =>
  rw [hDe,List.all_cons,Bool.and_eq_true] at hD;unfold sizeT;by_cases c1:0≤x∧((c :: D).length:Int) - 1+x<15
  ·rw [if_pos c1];exact ⟨c,_,rfl,hD.1⟩
  ·rw [if_neg c1];by_cases c2:x<0∧0≤((c :: D).length:Int) - 1+x
   ·rw [if_pos c2];obtain ⟨k,hk⟩:∃ k,(((c :: D).length:Int) - 1+x+1).toNat=k+1:=⟨(((c :: D).length:Int) - 1+x).toNat,by omega⟩;rw [hk,List.take_succ_cons];exact ⟨c,_,rfl,hD.1⟩
   ·rw [if_neg c2];by_cases c3:x<0 ∧ -5≤((c :: D).length:Int) - 1+x
    ·rw [if_pos c3];exact ⟨48,_,rfl,by decide⟩
    ·rw [if_neg c3];exact ⟨c,_,rfl,hD.1⟩
theorem size_len (u:Nat) (x:Int) (h2:u<1000000000000000) (x0 : -300≤x) (x1:x≤300):(sizeT (Lib.decDigits u) x).length≤50:=by
 have hl:=dec_len_le 14 u (by omega);obtain ⟨D,hDe⟩:∃ D,Lib.decDigits u=D:=⟨_,rfl⟩;rw [hDe] at hl ⊢;unfold sizeT
 split
 ·rw [List.length_append,List.length_replicate];omega
 ·split
  ·rw [List.length_append,List.length_cons,List.length_take,List.length_drop];omega
  ·split
   ·simp only [List.length_cons,List.length_append,List.length_replicate];omega
   ·have e1:∀ q:Nat,q<10000→(Lib.decDigits q).length≤4:=fun q hq=>(dec_len_le 3 q (by omega)).2;rw [List.length_append,List.length_append,List.length_take];have a:(if 1<D.length then 46 :: D.drop 1 else []).length≤15:=by
     split
     ·rw [List.length_cons,List.length_drop];omega
     ·simp
    have b:(if (D.length:Int) - 1+x<0 then 69 :: 45 :: Lib.decDigits (-((D.length:Int) - 1+x)).toNat else 69 :: 43 :: Lib.decDigits ((D.length:Int) - 1+x).toNat).length≤6:=by
     split
     ·have:=e1 (-((D.length:Int) - 1+x)).toNat (by omega);simp only [List.length_cons];omega
     ·have:=e1 ((D.length:Int) - 1+x).toNat (by omega);simp only [List.length_cons];omega
    omega
theorem read_text {n:Bool} {d x:Int} (hg:goodB n d x=true):readR (textT n d x)=⟨true,n,d,x⟩:=by
 unfold textT;rw [if_pos hg];unfold goodB at hg;by_cases h0:d=0
 ·subst h0;rw [if_pos rfl] at hg ⊢;simp only [Bool.and_eq_true,Bool.not_eq_true',decide_eq_true_eq] at hg;obtain ⟨rfl,rfl⟩:=hg;have:=mant_whole false (A:=[48]) (E:=[]) (q:=0) (by decide) (by simp) rfl (fun c m e=>by cases e);rw [List.append_nil] at this;unfold readR;rw [if_neg (by decide)];rw [show Lib.hasPrefix [48] [45]=false from rfl,show Lib.trimPrefix [48] [45]=[48] from rfl,this];simp [putR,fitR,dvN,nd_zero]
 ·rw [if_neg h0] at hg ⊢;simp only [decide_eq_true_eq] at hg;obtain ⟨d1,d2,d3,x0,x1⟩:=hg;obtain ⟨u,rfl⟩:=Int.eq_ofNat_of_zero_le (show 0≤d by omega);rw [Int.toNat_natCast];have hm:=mant_size n u x (by omega) (by omega) x0 x1;have hl:=size_len u x (by omega) x0 x1;obtain ⟨c,m,hc,hd⟩:=size_head u x;unfold readR;cases n
  ·simp only [Bool.false_eq_true,if_false,List.nil_append];rw [if_neg (by omega)];have hp:Lib.hasPrefix (sizeT (Lib.decDigits u) x) [45]=false:=pre_no (fun c' m' e=>by rw [hc] at e;cases e;intro e;subst e;revert hd;decide);have ht:Lib.trimPrefix (sizeT (Lib.decDigits u) x) [45]=sizeT (Lib.decDigits u) x:=by unfold Lib.trimPrefix;rw [hp];rfl
   rw [hp,ht];exact hm
  ·obtain ⟨p1,p2⟩:=pre_yes 45 (sizeT (Lib.decDigits u) x);rw [if_pos rfl,List.singleton_append,if_neg (by rw [List.length_cons];omega),p1,p2];exact hm
theorem typed_show {k:Int} {n:Bool} {d x:Int} {t:List UInt8} (hg:goodV k n d x t=true) (hk:k=1∨k=3):typedV (showV k n d x t)=valV k n d x t:=by
 unfold showV;rw [if_pos hg];unfold showT
 rcases hk with rfl | rfl
 ·obtain ⟨gb,rfl⟩:=goodV_num hg;have hr:=read_text gb;rw [if_neg (by decide),if_pos rfl];unfold typedV;rw [hr];have hne:(textT n d x == [])=false:=by
   cases h:textT n d x with
   | nil =>
    rw [h] at hr;have e:(readR []).ok=true:=congrArg DR.ok hr;exact absurd e (by decide)
   | cons c m=>rfl
  rw [hne];rfl
 ·rw [if_neg (by decide),if_neg (by decide)];obtain ⟨rfl,rfl,rfl⟩:=goodV_zero hg (by decide);have hb:boolB t=true:=(show zeroD false 0 0=true∧boolB t=true by simpa [goodV] using hg).2;have:t=[84,82,85,69]∨t=[70,65,76,83,69]:=by simpa [boolB] using hb
  rcases this with rfl | rfl
  ·have e1:(readR [84,82,85,69]).ok=false:=by decide
   unfold typedV;rw [e1];rfl
  ·have e1:(readR [70,65,76,83,69]).ok=false:=by decide
   unfold typedV;rw [e1];rfl
end Go.Proofs.YtkadkfmidlhedaaGreatDoor

