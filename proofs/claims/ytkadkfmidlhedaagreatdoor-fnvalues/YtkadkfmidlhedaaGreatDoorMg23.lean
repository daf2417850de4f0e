/-
  Several texts in one: X9d, X9e, Xc, V7d, V7e.
-/
import Derived.Test.YtkadkfmidlhedaaGreatDoorMg22
import Derived.Laws.IdiomStrings
import Derived.Test.YtkadkfmidlhedaaGreatDoorMg17
import Derived.Test.YtkadkfmidlhedaaGreatDoorMg3
import Derived.OwnWalk
import Derived.Laws.OwnMore
import Derived.BigQuiet
import Derived.Deep.QuietTactic
set_option maxRecDepth 8000
set_option maxHeartbeats 2000000
namespace Go.Proofs.YtkadkfmidlhedaaGreatDoor
open Go.RowKit
theorem zW9:(Tryz.prog.info? 5).map (fun i=>(i.zero,i.size,i.bytes))=some (some (.int .u8 0),1,1):=by kernel_rfl
theorem zR1 (n:Nat) (hn:n<=2000000) (w:World) :
  (Instr.makeSlice 22 (iQ (n:Int)) (iQ (n:Int))).run Tryz.prog w=.ok (.slice (some ⟨w.heap.size,0,none⟩) n n) (w.alloc (.cells (madeCells #[.int .u8 0] (n * 1)) 5)):=by
 obtain ⟨i,hi,hzz⟩:=Option.map_eq_some_iff.1 zW9;simp only [Prod.mk.injEq] at hzz;obtain ⟨hz,hs,hb⟩:=hzz;have hr:=run_make (P:=Tryz.prog) w 22 5 i _ Tryz.underlying22 hi hz .i64 .i64 n n (by omega) (Int.le_refl _) (by rw [hb];omega) (by omega);simp only [Int.toNat_natCast,hs] at hr;exact hr
theorem zXD (n:Nat):madeCells #[.int .u8 0] (n * 1)=(List.replicate n (Value.int .u8 0)).toArray:=by
 apply Array.ext';unfold madeCells;apply List.ext_getElem?;intro i;simp;by_cases h:i<n
 ·simp [h,Nat.mod_one]
 ·simp [h]
def mixU (m k:Nat):List Value:=List.replicate k (Value.int .u8 107)++List.replicate (m - k) (Value.int .u8 0)
theorem zLB (m k:Nat) (h:k<=m):(mixU m k).length=m:=by simp [mixU];omega
theorem zOY (m k:Nat) (h:k<m):(mixU m k).set k (.int .u8 107)=mixU m (k+1):=by
 unfold mixU;obtain ⟨j,rfl⟩:∃ j,m=k+1+j:=⟨m - k - 1,by omega⟩;rw [show k+1+j - k=j+1 by omega,show k+1+j - (k+1)=j by omega,List.replicate_succ,List.set_append_right _ _ (by simp)];simp [List.replicate_succ']
theorem zQX (m:Nat):mixU m m=List.replicate m (.int .u8 107):=by simp [mixU]
theorem zJB (b base K:Nat) (k:Int) (n:Bool) (d x:Int) (t:List UInt8) (w:World) (h:Cur w b base K) (hK:K<=900000) (d0:0<=d) (d1:d<1000000000000000) (ht:t.length<=2000) :
  Calls Tryz.prog 32 #[.pointer (some ⟨b,0,none⟩),valV k n d x t] w fun e w'=>zSQ e/\Cur w' b base (K+10)/\Only b w w':=by
 have bl:=h.lt;have bb:=h.baseC;obtain ⟨u0,u1,h0,h1,s0,s1,B0,B1,X⟩:=mkB2 w [iQ k,.bool n,iQ d,iQ x,sV t] [iQ 0,.bool false,iQ 0,iQ 0,sV []] 26 26;have C0:=h.ext X;go_enter Tryz.func32,Tryz.ntmps32;go_wp2_with fail;clear h0 h1;refine (zBX b base K 40 _ C0 (by omega) (by omega) (by omega)).mono ?_;rintro e w1 ⟨y,rfl,⟨y0,y9⟩,C1,o1⟩;have V0:=o1.vecC (by omega) B0;have V1:=o1.vecC (by omega) B1;have O1:=(Only.of_ext X).trans o1;clear C0 o1 X B0 B1 s0 s1;by_cases q0:y=0
 ·subst q0;clear y0 y9;go_wp2_with fail;refine (zBX b base _ 7 _ C1 (by omega) (by omega) (by omega)).mono ?_;rintro e w2 ⟨z,rfl,⟨z0,z9⟩,C1,o1⟩;have V0:=o1.vecC (by omega) V0;have V1:=o1.vecC (by omega) V1;have O1:=O1.trans o1;clear o1;obtain ⟨b0,fb0⟩:=V0 0 _ rfl;have V2:Vec (w2.setCell ⟨w.heap.size,0,none⟩ (iQ (z - 1))) w.heap.size [iQ (z - 1),.bool n,iQ d,iQ x,sV t]:=V0.put 0 (by simp) _;have V1:=V1.far (p:=⟨w.heap.size,0,none⟩) (by show w.heap.size ≠ _;omega) (iQ (z - 1));have C1:=C1.far (g:=w.heap.size) (i:=0) (by omega) (by omega) (iQ (z - 1));have O1:=O1.setNew (g:=w.heap.size) (i:=0) (Nat.le_refl _) (iQ (z - 1));obtain ⟨ws,hs⟩:=nm (w2.setCell ⟨w.heap.size,0,none⟩ (iQ (z - 1)));rw [hs] at V1 V2 C1 O1;have V0:=V2;clear V2;obtain ⟨a0,a1,a2,a3,a4⟩:=Vec.five (V0);obtain ⟨wy,hy,OF,CF,_,⟨b0,b1,b2,b3,b4⟩,⟨fb0,fb1,fb2,fb3,fb4⟩,fd0,fd1,fd2,fd3,fd4⟩:=zFC V1 C1 O1 (Nat.le_succ _) (by omega) (by omega) (z - 1) n d x t;go_wp2_with fail;exact bodyPost_ret (v:=valV (z - 1) n d x t) (by simp [results,Tryz.results32,go_sem,fd0,fd1,fd2,fd3,fd4]) rfl ⟨⟨_,_,_,_,_,rfl,d0,d1,ht⟩,CF.more (by omega),OF⟩
 ·have e0:(y == 0)=false:=by simpa using q0
  by_cases q1:y=1
  ·subst q1;clear y0 y9;obtain ⟨b4,fb4⟩:=V0 4 _ rfl;have V2:Vec (w1.setCell ⟨w.heap.size,4,none⟩ (sV [97,9,98])) w.heap.size [iQ k,.bool n,iQ d,iQ x,sV [97,9,98]]:=V0.put 4 (by simp) _;have V1:=V1.far (p:=⟨w.heap.size,4,none⟩) (by show w.heap.size ≠ _;omega) (sV [97,9,98]);have C1:=C1.far (g:=w.heap.size) (i:=4) (by omega) (by omega) (sV [97,9,98]);have O1:=O1.setNew (g:=w.heap.size) (i:=4) (Nat.le_refl _) (sV [97,9,98]);obtain ⟨ws,hs⟩:=nm (w1.setCell ⟨w.heap.size,4,none⟩ (sV [97,9,98]));rw [hs] at V1 V2 C1 O1;have V0:=V2;clear V2;obtain ⟨a0,a1,a2,a3,a4⟩:=Vec.five (V0);obtain ⟨wy,hy,OF,CF,_,⟨b0,b1,b2,b3,b4⟩,⟨fb0,fb1,fb2,fb3,fb4⟩,fd0,fd1,fd2,fd3,fd4⟩:=zFC V1 C1 O1 (Nat.le_succ _) (by omega) (by omega) k n d x ([97,9,98]);go_wp2_with fail;exact bodyPost_ret (v:=valV k n d x ([97,9,98])) (by simp [results,Tryz.results32,go_sem,fd0,fd1,fd2,fd3,fd4]) rfl ⟨⟨_,_,_,_,_,rfl,d0,d1,by simp⟩,CF.more (by omega),OF⟩
  ·have e1:(y == 1)=false:=by simpa using q1
   by_cases q2:y=2
   ·subst q2;clear y0 y9;obtain ⟨b2,fb2⟩:=V0 2 _ rfl;have V2:Vec (w1.setCell ⟨w.heap.size,2,none⟩ (iQ 10)) w.heap.size [iQ k,.bool n,iQ 10,iQ x,sV t]:=V0.put 2 (by simp) _;have V1:=V1.far (p:=⟨w.heap.size,2,none⟩) (by show w.heap.size ≠ _;omega) (iQ 10);have C1:=C1.far (g:=w.heap.size) (i:=2) (by omega) (by omega) (iQ 10);have O1:=O1.setNew (g:=w.heap.size) (i:=2) (Nat.le_refl _) (iQ 10);obtain ⟨ws,hs⟩:=nm (w1.setCell ⟨w.heap.size,2,none⟩ (iQ 10));rw [hs] at V1 V2 C1 O1;have V0:=V2;clear V2;obtain ⟨a0,a1,a2,a3,a4⟩:=Vec.five (V0);obtain ⟨wy,hy,OF,CF,_,⟨b0,b1,b2,b3,b4⟩,⟨fb0,fb1,fb2,fb3,fb4⟩,fd0,fd1,fd2,fd3,fd4⟩:=zFC V1 C1 O1 (Nat.le_succ _) (by omega) (by omega) k n 10 x t;go_wp2_with fail;exact bodyPost_ret (v:=valV k n 10 x t) (by simp [results,Tryz.results32,go_sem,fd0,fd1,fd2,fd3,fd4]) rfl ⟨⟨_,_,_,_,_,rfl,by omega,by omega,ht⟩,CF.more (by omega),OF⟩
   ·have e2:(y == 2)=false:=(by simpa using q2);by_cases q3:y=3
    ·subst q3;clear y0 y9;go_wp2_with fail;refine (zBX b base _ 3 _ C1 (by omega) (by omega) (by omega)).mono ?_;rintro e w2 ⟨z,rfl,⟨z0,z9⟩,C1,o1⟩;have V0:=o1.vecC (by omega) V0;have V1:=o1.vecC (by omega) V1;have O1:=O1.trans o1;clear o1;obtain ⟨m,hm⟩:∃ m:Nat,999+z=(m:Int):=⟨(999+z).toNat,by omega⟩;have hmk:=zR1 m (by omega) w2;rw [zXD] at hmk;have hb2:=C1.lt;have hs2:w.heap.size+1<w2.heap.size:=World.block_lt_of_cell? _ _ (V1 0 _ rfl).1;have EM:=x1 w2 (.cells (List.replicate m (Value.int .u8 0)).toArray 5);have VM:=zA5 w2 (List.replicate m (Value.int .u8 0)) 5;obtain ⟨w3,h3⟩:=nm (w2.alloc (.cells (List.replicate m (Value.int .u8 0)).toArray 5));rw [h3] at hmk EM VM;have C1:=C1.ext EM;have V1:=V1.l EM;have O1:=O1.trans (Only.of_ext EM);have hwz:IntKind.i64.wrap (999+z)=(m:Int):=(by rw [hm,IntKind.wrap_i64];omega);obtain ⟨g,hg⟩:=nm (w2.heap.size);rw [hg] at hmk VM hs2 hb2;have HV0:Hid (Vec w3 g (mixU m 0)/\Vec w3 (w.heap.size+1) [iQ 0,.bool false,iQ 0,iQ 0,sV []]/\Cur w3 b base (K+2+2)/\Only b w w3):=⟨by unfold mixU;exact VM,V1,C1,O1⟩;clear VM V1 C1 O1 EM V0;go_wp2_with fail;clear hmk h3;go_loopw [30] (fun i wr=>∃ q:Nat,q<=m/\i=.int .i64 q/\Hid (Vec wr g (mixU m q)/\Vec wr (w.heap.size+1) [.int .i64 0,.bool false,.int .i64 0,.int .i64 0,sV []]/\Cur wr b base (K+2+2)/\Only b w wr)) (fun i _=>m - (intOf i).toNat)
     case atStart=>exact ⟨0,by omega,rfl,HV0⟩
     case round =>
      obtain ⟨q,hq,rfl,HV⟩:=hrel;obtain ⟨VM,V1,C1,O1⟩:=HV.out;clear HV0;by_cases hlt:q<m
      ·have i2:(q:Int)<(m:Int):=(by omega);obtain ⟨a0,f0⟩:=VM q _ (List.getElem?_eq_getElem (by rw [zLB m q hq];exact hlt));have VN:Vec (wr.setCell ⟨g,q,none⟩ (.int .u8 107)) g (mixU m (q+1)):=(by rw [<- zOY m q hlt];exact VM.put q (by rw [zLB m q hq];exact hlt) _);have V1:=V1.far (p:=⟨g,q,none⟩) (by show g ≠ _;omega) (.int .u8 107);have C1:=C1.far (g:=g) (i:=q) (by omega) (by omega) (.int .u8 107);have O1:=O1.setNew (g:=g) (i:=q) (by omega) (.int .u8 107);obtain ⟨ws,hs⟩:=nm (wr.setCell ⟨g,q,none⟩ (.int .u8 107));rw [hs] at VN V1 C1 O1;have HVn:Hid (Vec ws g (mixU m (q+1))/\Vec ws (w.heap.size+1) [iQ 0,.bool false,iQ 0,iQ 0,sV []]/\Cur ws b base (K+2+2)/\Only b w ws):=⟨VN,V1,C1,O1⟩;clear VM VN V1 C1 O1 HV;go_wp2_with fail;go_roundw
       case rel=>exact ⟨q+1,by omega,by go_num,HVn⟩
       case measure=>simp [intOf];omega
      ·obtain rfl:q=m:=(by omega);rw [zQX] at VM;have hcv:=run_convert_bytes_back (P:=Tryz.prog) wr 22 9 5 ⟨g,0,none⟩ q (List.replicate q 107) Tryz.underlying22 Tryz.underlying5 Tryz.underlying9 (fun j hj=>by
        have hj':j<q:=(by simpa using hj);have:=(VM j (.int .u8 107) (by rw [List.getElem?_replicate,if_pos hj'])).1;rw [show (⟨g,0,none⟩:Addr).add j=⟨g,j,none⟩ by unfold Addr.add;split <;> simp_all,this];simp)
       rw [List.length_replicate] at hcv;obtain ⟨tx,htx⟩:=nm (List.replicate q (107:UInt8));have hlx:tx.length<=2000:=(by rw [<- htx,List.length_replicate];omega);rw [htx] at hcv;clear htx VM HV;go_wp2_with fail;clear hcv;refine (zG0 tx wr).mono ?_;rintro e w8 ⟨rfl,E⟩;have C1:=C1.ext E;have V1:=V1.l E;have O1:=O1.trans (Only.of_ext E);clear E;obtain ⟨wy,hy,OF,CF,_,⟨b0,b1,b2,b3,b4⟩,⟨fb0,fb1,fb2,fb3,fb4⟩,fd0,fd1,fd2,fd3,fd4⟩:=zFC V1 C1 O1 (Nat.le_succ _) (by omega) (by omega) 2 false 0 0 tx;go_wp2_with fail;exact bodyPost_ret (v:=valV 2 false 0 0 tx) (by simp [results,Tryz.results32,go_sem,fd0,fd1,fd2,fd3,fd4]) rfl ⟨⟨_,_,_,_,_,rfl,by omega,by omega,hlx⟩,CF.more (by omega),OF⟩
    ·have e3:(y == 3)=false:=(by simpa using q3);obtain ⟨a0,a1,a2,a3,a4⟩:=Vec.five (V0);obtain ⟨wy,hy,OF,CF,_,⟨b0,b1,b2,b3,b4⟩,⟨fb0,fb1,fb2,fb3,fb4⟩,fd0,fd1,fd2,fd3,fd4⟩:=zFC V1 C1 O1 (Nat.le_succ _) (by omega) (by omega) k n d x t;go_wp2_with fail;exact bodyPost_ret (v:=valV k n d x t) (by simp [results,Tryz.results32,go_sem,fd0,fd1,fd2,fd3,fd4]) rfl ⟨⟨_,_,_,_,_,rfl,d0,d1,ht⟩,CF.more (by omega),OF⟩
def zL7:List (List UInt8):=[[],[61,61],[120],[33]]
theorem opC (b base K:Nat) (w:World) (h:Cur w b base K) (hK:K<=900000) :
  Calls Tryz.prog 56 #[.pointer (some ⟨b,0,none⟩)] w fun e w'=>(∃ t,e=.returned (sV t)/\t.length<=2)/\Cur w' b base (K+10)/\Only b w w':=by
 have bl:=h.lt;have bb:=h.baseC;go_enter Tryz.func56,Tryz.ntmps56;go_wp2_with fail;refine (oneC b base K 30 _ h (by omega) (by omega) (by omega)).mono ?_;rintro e w1 ⟨q,rfl,C1,O1⟩;cases q
 ·go_wp2_with fail;refine (opsS _).mono ?_;rintro e w3 ⟨g,rfl,TV,E⟩;have C1:=C1.ext E;have O1:=O1.trans (Only.of_ext E);clear E;have gb:g ≠ b:=zSN C1 TV rfl;go_wp2_with fail;refine (zBX b base _ 12 _ C1 (by omega) (by omega) (by omega)).mono ?_;rintro e w4 ⟨y,rfl,⟨y0,y9⟩,C1,o1⟩;have TV:=o1.vecC gb TV;have O1:=O1.trans o1;clear o1;obtain ⟨m,rfl⟩:=Int.eq_ofNat_of_zero_le y0;obtain ⟨t,ht,hm⟩:=zNJ (L:=opsL) (m:=m) (by show m<12;omega);have hl:t.length<=2:=by
   simp only [opsL,List.mem_cons,List.not_mem_nil,or_false] at hm
   rcases hm with rfl | rfl | rfl | rfl | rfl | rfl | rfl | rfl | rfl | rfl | rfl | rfl <;> decide
  have a0:=(TV m _ ht).1;have i2:(m:Int)<12:=y9;clear hm ht TV;go_wp2_with fail;go_ret;exact ⟨⟨t,rfl,hl⟩,C1.more (by omega),O1⟩
 ·have hb1:=C1.lt;have TV:=zA5 w1 (zL7.map sV) 9;have C1:=fun o=>C1.ext (x1 w1 o);have O1:=fun o=>O1.trans (Only.of_ext (x1 w1 o));go_wp2_with fail;refine (zBX b base _ 4 _ (C1 _) (by omega) (by omega) (by omega)).mono ?_;rintro e w2 ⟨y,rfl,⟨y0,y9⟩,C2,o1⟩;have O1:=(O1 _).trans o1;have TV:Vec w2 w1.heap.size (zL7.map sV):=o1.vecC (by omega) TV;clear o1;obtain ⟨m,rfl⟩:=Int.eq_ofNat_of_zero_le y0;obtain ⟨t,ht,hm⟩:=zNJ (L:=zL7) (m:=m) (by show m<4;omega);have hl:t.length<=2:=by
   simp only [zL7,List.mem_cons,List.not_mem_nil,or_false] at hm
   rcases hm with rfl | rfl | rfl | rfl <;> decide
  have a0:=(TV m _ ht).1;have i2:(m:Int)<4:=y9;clear hm ht TV;go_wp2_with fail;go_ret;exact ⟨⟨t,rfl,hl⟩,C2.more (by omega),O1⟩
theorem zUY (v:Value) (n:Nat) (w:World) (h:zCQ w w.heap.size v n) (hn:n<=1048576) :
  Calls Tryz.prog 8 #[v] w fun e w'=>(∃ k n d x t k' n' d' x' t',e=.returned (.tuple #[valV k n d x t,valV k' n' d' x' t'])/\(0<=d/\d<1000000000000000/\t.length<=2000)/\0<=d'/\d'<1000000000000000/\t'.length<=2000)/\Ext w w':=by
 obtain ⟨p,nn,cap,rfl⟩:∃ p nn cap,v=.slice p nn cap:=by
  rcases h with ⟨⟨p,cap,rfl⟩,_⟩ | ⟨pb,po,cap,_,rfl,_⟩
  ·exact ⟨_,_,_,rfl⟩
  ·exact ⟨_,_,_,rfl⟩
 obtain ⟨u0,u1,h0,h1,s0,s1,B0,B1,X⟩:=mkB2 w [iQ 0,.bool false,iQ 0,iQ 0,sV []] [iQ 0,.bool false,iQ 0,iQ 0,sV []] 26 26;have CM:=Cur.made u1 (.slice p nn cap) n w.heap.size 64 (h.only (Only.of_ext X (b:=w.heap.size)) (Nat.le_refl _)) hn (by omega);have EM:=x1 u1 (.cells #[.slice p nn cap,iQ 0,.int .u64 0] 64);obtain ⟨u2,h2⟩:=nm (u1.alloc (.cells #[.slice p nn cap,iQ 0,.int .u64 0] 64));rw [h2] at CM EM;rw [s1] at CM;have V0:=B0.l EM;have V1:=B1.l EM;have X2:=xt X EM;have s2:u2.heap.size=w.heap.size+1+1+1:=by rw [<- h2,World.size_alloc,s1]
 go_enter Tryz.func8,Tryz.ntmps8;go_wp2_with fail;clear h0 h1 h2;refine (zN9 (w.heap.size+1+1) w.heap.size 0 u2 CM (by omega)).mono ?_;rintro e w1 ⟨⟨k1,n1,d1,x1',t1,rfl,q1,q2,q3⟩,C1,o1⟩;have V0:=o1.vecC (by omega) V0;have V1:=o1.vecC (by omega) V1;have O1:=o1;clear o1;go_wp2_with fail;refine (zJB (w.heap.size+1+1) w.heap.size _ k1 n1 d1 x1' t1 w1 C1 (by omega) q1 q2 q3).mono ?_;rintro e w2 ⟨⟨k,n,d,x,t,rfl,p1,p2,p3⟩,C1,o1⟩;have V0:=o1.vecC (by omega) V0;have V1:=o1.vecC (by omega) V1;have O1:=O1.trans o1;clear o1 q1 q2 q3;have O2lt:=C1.lt;obtain ⟨wz,w3,hz,hy,BA,EA,⟨z0,z1,z2,z3,z4⟩,fz0,fz1,fz2,fz3,fz4⟩:=newB w2 k n d x t;have C1:=C1.ext EA;have V0:=V0.l EA;have V1:=V1.l EA;have O1:=O1.trans (Only.of_ext EA);go_upto_region 3 with fail;have XF:Ext w w3:=Only.ext X2 O1 (by omega);have lt2:w.heap.size+1+1<w2.heap.size:=O2lt;clear hz hy z0 z1 z2 z3 z4 fz0 fz1 fz2 fz3 fz4 O1 EA;refine zA2 (fun lx:Nat->Value=>{ tmps:=#[Value.slice p nn cap,undef,Value.pointer (some ⟨w.heap.size,0,none⟩),Value.pointer (some ⟨w.heap.size+1,0,none⟩),Value.pointer (some ⟨w.heap.size+1+1,0,none⟩),Value.pointer (some ⟨w2.heap.size,0,none⟩),Value.slice p nn cap,Value.agg #[Value.slice p nn cap,iQ 0,Value.int IntKind.u64 0],Value.pointer (some ⟨w.heap.size+1+1,0,none⟩),Value.pointer (some ⟨w.heap.size+1+1,0,none⟩),Value.pointer (some ⟨w.heap.size+1+1,0,none⟩),valV k1 n1 d1 x1' t1,valV k n d x t,lx 13,lx 14,lx 15,lx 16,lx 17],defers:=[] }) (fun L lx lw=>Hid (Ext w lw/\(L 4=false->L 3=false->Cur lw (w.heap.size+1+1) w.heap.size (0+40+10))/\(L 4=false->L 3=true->Cur lw (w.heap.size+1+1) w.heap.size (0+40+10+40))/\Vec lw w2.heap.size [iQ k,.bool n,iQ d,iQ x,sV t]/\(L 5=false->Vec lw w.heap.size [iQ 0,.bool false,iQ 0,iQ 0,sV []])/\(L 5=true->Vec lw w.heap.size [iQ k,.bool n,iQ d,iQ x,sV t])/\(L 6=false->Vec lw (w.heap.size+1) [iQ 0,.bool false,iQ 0,iQ 0,sV []])/\(L 6=true->∃ k' n' d' x' t',Vec lw (w.heap.size+1) [iQ k',.bool n',iQ d',iQ x',sV t']/\0<=d'/\d'<1000000000000000/\t'.length<=2000)/\(L 0=true->lx 13=valV k n d x t)/\(L 1=true->lx 14=Value.pointer (some ⟨w.heap.size+1+1,0,none⟩))/\(L 2=true->lx 15=Value.pointer (some ⟨w.heap.size+1+1,0,none⟩))/\(L 3=true->∃ k' n' d' x' t',lx 16=valV k' n' d' x' t'/\0<=d'/\d'<1000000000000000/\t'.length<=2000)/\(L 4=true->∃ k' n' d' x' t',lx 17=valV k' n' d' x' t'/\0<=d'/\d'<1000000000000000/\t'.length<=2000)/\(L 4=true->L 3=true)/\(L 5=true->L 4=true)/\(L 6=true->L 5=true))) rfl (by kernel_rfl) (fun jj=>undef) rfl ?_ ?_ ?_
 ·have DD:=xd (xr w3);exact ⟨xt XF DD,(fun _ _=>C1.ext DD),(fun _ q=>by cases q),BA.l DD,(fun _=>V0.l DD),(fun q=>by cases q),(fun _=>V1.l DD),(fun q=>by cases q),(fun q=>by cases q),(fun q=>by cases q),(fun q=>by cases q),(fun q=>by cases q),(fun q=>by cases q),(fun q=>by cases q),(fun q=>by cases q),(fun q=>by cases q)⟩
 ·intro L lx wl i o K hK ho hL haf hI;obtain ⟨f0,f1,f2,f3,f4,f5,f6,f7,f8,f9,f10,f11,f12,f13,f14,f15⟩:=hI.out
  match i,ho,hL,haf,hK with
  | 0,ho,hL,haf,hK =>
   cases ho
   (try dsimp only)
   obtain ⟨a0,a1,a2,a3,a4⟩:=Vec.five (f3);go_wp2_with fail;exact hK (fun jj=>if jj=13 then valV k n d x t else lx jj) _ ⟨f0,f1,f2,f3,f4,f5,f6,f7,(fun _=>rfl),f9,f10,f11,f12,f13,f14,f15⟩
  | 1,ho,hL,haf,hK =>
   cases ho
   (try dsimp only)
   go_wp2_with fail;exact hK (fun jj=>if jj=14 then Value.pointer (some ⟨w.heap.size+1+1,0,none⟩) else lx jj) _ ⟨f0,f1,f2,f3,f4,f5,f6,f7,f8,(fun _=>rfl),f10,f11,f12,f13,f14,f15⟩
  | 2,ho,hL,haf,hK =>
   cases ho
   (try dsimp only)
   go_wp2_with fail;exact hK (fun jj=>if jj=15 then Value.pointer (some ⟨w.heap.size+1+1,0,none⟩) else lx jj) _ ⟨f0,f1,f2,f3,f4,f5,f6,f7,f8,f9,(fun _=>rfl),f11,f12,f13,f14,f15⟩
  | 3,ho,hL,haf,hK =>
   cases ho
   (try dsimp only)
   have h4:L 4=false:=by
    cases hh:L 4 with
    | false=>rfl
    | true=>have:=f13 hh;rw [hL] at this;cases this
   rw [f10 (haf ⟨2,.data⟩ (by simp) rfl)];go_wp2_with fail;refine (zN9 (w.heap.size+1+1) w.heap.size _ wl (f1 h4 hL) (by omega)).mono ?_;rintro rr w' ⟨⟨k',n',d',x',t',rfl,q1,q2,q3⟩,CC,o⟩;go_wp2_with fail;exact hK (fun jj=>if jj=16 then valV k' n' d' x' t' else if jj=15 then Value.pointer (some ⟨w.heap.size+1+1,0,none⟩) else lx jj) _ ⟨(Only.ext f0 o (by omega)),(fun _ q=>by cases q),(fun _ _=>CC),(o.vecC (by omega) f3),(fun q=>o.vecC (by omega) (f4 q)),(fun q=>o.vecC (by omega) (f5 q)),(fun q=>o.vecC (by omega) (f6 q)),(fun q=>by obtain ⟨k',n',d',x',t',g1,g2⟩:=f7 q;exact ⟨k',n',d',x',t',o.vecC (by omega) g1,g2⟩),f8,f9,(fun _=>rfl),(fun _=>⟨k',n',d',x',t',rfl,q1,q2,q3⟩),f12,(fun _=>rfl),f14,f15⟩
  | 4,ho,hL,haf,hK =>
   cases ho
   (try dsimp only)
   have h3:L 3=true:=haf ⟨3,.data⟩ (by simp) rfl;obtain ⟨k',n',d',x',t',e16,q1,q2,q3⟩:=f11 h3;rw [f9 (haf ⟨1,.data⟩ (by simp) rfl),e16];go_wp2_with fail;refine (zJB (w.heap.size+1+1) w.heap.size _ k' n' d' x' t' wl (f2 hL h3) (by omega) q1 q2 q3).mono ?_;rintro rr w' ⟨⟨k'',n'',d'',x'',t'',rfl,r1,r2,r3⟩,CC,o⟩;go_wp2_with fail;exact hK (fun jj=>if jj=17 then valV k'' n'' d'' x'' t'' else if jj=14 then Value.pointer (some ⟨w.heap.size+1+1,0,none⟩) else if jj=16 then valV k' n' d' x' t' else lx jj) _ ⟨(Only.ext f0 o (by omega)),(fun q=>by cases q),(fun q=>by cases q),(o.vecC (by omega) f3),(fun q=>o.vecC (by omega) (f4 q)),(fun q=>o.vecC (by omega) (f5 q)),(fun q=>o.vecC (by omega) (f6 q)),(fun q=>by obtain ⟨k',n',d',x',t',g1,g2⟩:=f7 q;exact ⟨k',n',d',x',t',o.vecC (by omega) g1,g2⟩),f8,(fun _=>rfl),f10,(fun _=>⟨k',n',d',x',t',rfl,q1,q2,q3⟩),(fun _=>⟨k'',n'',d'',x'',t'',rfl,r1,r2,r3⟩),(fun _=>h3),(fun _=>rfl),f15⟩
  | 5,ho,hL,haf,hK =>
   cases ho
   (try dsimp only)
   have h4:L 4=true:=haf ⟨4,.chain⟩ (by simp) rfl;rw [f8 (haf ⟨0,.data⟩ (by simp) rfl)];have bx:=f4 hL;obtain ⟨b0,b1,b2,b3,b4⟩:=Vec.five (bx);obtain ⟨fb0,fb1,fb2,fb3,fb4⟩:=Vec.fiveF (bx);have hX:=Ext.setL (b:=w.heap.size) (by omega) [iQ k,.bool n,iQ d,iQ x,sV t] 0 f0;have hB:=bx.put5 (iQ k) (.bool n) (iQ d) (iQ x) (sV t);go_wp2_with fail;exact hK (fun jj=>if jj=13 then valV k n d x t else lx jj) _ ⟨(hX),(fun q=>Bool.noConfusion (h4.symm.trans q)),(fun q=>Bool.noConfusion (h4.symm.trans q)),(Vec.farL (k:=w.heap.size) (by omega) [iQ k,.bool n,iQ d,iQ x,sV t] 0 f3),(fun q=>by cases q),(fun _=>hB),(fun q=>Vec.farL (k:=w.heap.size) (by omega) [iQ k,.bool n,iQ d,iQ x,sV t] 0 (f6 q)),(fun q=>by obtain ⟨k',n',d',x',t',g1,g2⟩:=f7 q;exact ⟨k',n',d',x',t',Vec.farL (k:=w.heap.size) (by omega) [iQ k,.bool n,iQ d,iQ x,sV t] 0 g1,g2⟩),(fun _=>rfl),f9,f10,f11,f12,f13,(fun _=>h4),(fun _=>rfl)⟩
  | 6,ho,hL,haf,hK =>
   cases ho
   (try dsimp only)
   have h5:L 5=true:=haf ⟨5,.chain⟩ (by simp) rfl;have h4:L 4=true:=f14 h5;obtain ⟨k',n',d',x',t',e17,q1,q2,q3⟩:=f12 h4;rw [e17];have bx:=f6 hL;obtain ⟨b0,b1,b2,b3,b4⟩:=Vec.five (bx);obtain ⟨fb0,fb1,fb2,fb3,fb4⟩:=Vec.fiveF (bx);have hX:=Ext.setL (b:=(w.heap.size+1)) (by omega) [iQ k',.bool n',iQ d',iQ x',sV t'] 0 f0;have hB:=bx.put5 (iQ k') (.bool n') (iQ d') (iQ x') (sV t');go_wp2_with fail;exact hK (fun jj=>if jj=17 then valV k' n' d' x' t' else lx jj) _ ⟨(hX),(fun q=>Bool.noConfusion (h4.symm.trans q)),(fun q=>Bool.noConfusion (h4.symm.trans q)),(Vec.farL (k:=(w.heap.size+1)) (by omega) [iQ k',.bool n',iQ d',iQ x',sV t'] 0 f3),(fun q=>Vec.farL (k:=(w.heap.size+1)) (by omega) [iQ k',.bool n',iQ d',iQ x',sV t'] 0 (f4 q)),(fun q=>Vec.farL (k:=(w.heap.size+1)) (by omega) [iQ k',.bool n',iQ d',iQ x',sV t'] 0 (f5 q)),(fun q=>by cases q),(fun _=>⟨k',n',d',x',t',hB,q1,q2,q3⟩),f8,f9,f10,f11,(fun _=>⟨k',n',d',x',t',rfl,q1,q2,q3⟩),f13,f14,(fun _=>h5)⟩
  | k+7,ho,_,_,_=>simp at ho
 ·intro L lx wr hall hI;obtain ⟨f0,f1,f2,f3,f4,f5,f6,f7,f8,f9,f10,f11,f12,f13,f14,f15⟩:=hI.out;clear hI;have G0:=f5 (hall 5 (by simp));obtain ⟨k',n',d',x',t',G1,q1,q2,q3⟩:=f7 (hall 6 (by simp));have XE:=f0;clear hall f0 f1 f2 f3 f4 f5 f6 f7 f8 f9 f10 f11 f12 f13 f14 f15
  (try dsimp only)
  obtain ⟨a0,a1,a2,a3,a4⟩:=Vec.five (G0);obtain ⟨c0,c1,c2,c3,c4⟩:=Vec.five (G1);go_wp2_with fail;exact bodyPost_ret (v:=.tuple #[valV k n d x t,valV k' n' d' x' t']) (by simp [results,Tryz.results8,go_sem,a0,a1,a2,a3,a4,c0,c1,c2,c3,c4]) rfl ⟨⟨_,_,_,_,_,_,_,_,_,_,rfl,⟨p1,p2,p3⟩,q1,q2,q3⟩,XE⟩
theorem Only.of_grown {w w':World} {g:Nat} (h:w.grownBy w' (some g)):Only g w w':=⟨h.os,h.tape,h.output,h.size,fun k hk hl=>h.block k hl (fun e=>hk (by cases e;rfl))⟩
theorem zPC {w w':World} (h:w.grownBy w' none):Ext w w':=⟨h.os,h.tape,h.output,h.size,fun k hk=>h.block k hk (fun e=>by cases e)⟩
theorem Only.to_grown {w w':World} {g:Nat} (h:Only g w w'):w.grownBy w' (some g):=⟨h.os,h.tape,h.output,h.size,fun k hk hne=>h.block k (fun e=>hne (by rw [e])) hk⟩
theorem Only.box3 {b k:Nat} {w w':World} {v0 v1 v2:Value} (h:Only b w w') (hk:k ≠ b) (B:Box3 w k v0 v1 v2):Box3 w' k v0 v1 v2:=by
 have hlt:=World.block_lt_of_cell? _ _ B.1.1;have hf:∀ j,w'.frozen? ⟨k,j,none⟩=w.frozen? ⟨k,j,none⟩:=fun j=>by
  unfold World.frozen?;rw [h.block k hk hlt]
 exact ⟨⟨h.cell hk B.1.1,h.cell hk B.1.2.1,h.cell hk B.1.2.2⟩,(hf 0).trans B.2.1,(hf 1).trans B.2.2.1,(hf 2).trans B.2.2.2⟩
theorem Cur.grown {w w':World} {b base K:Nat} {row:Option Nat} (h:Cur w b base K) (hg:w.grownBy w' row) (hr:∀ r,row=some r->r ≠ b/\base<=r):Cur w' b base K:=by
 cases row with
 | none=>exact h.ext (zPC hg)
 | some g =>
  obtain ⟨hgb,hbg⟩:=hr g rfl;have o:=Only.of_grown hg;obtain ⟨v,k,a,s,B,hc,r⟩:=h;exact ⟨v,k,a,s,o.box3 (fun e=>hgb e.symm) B,hc.only o hbg,r⟩
theorem Only.grown {w w1 w':World} {b:Nat} {row:Option Nat} (h:Only b w w1) (hg:w1.grownBy w' row) (hr:∀ r,row=some r->w.heap.size<=r):Only b w w':=
 ⟨hg.os.trans h.os,hg.tape.trans h.tape,hg.output.trans h.output,Nat.le_trans h.size hg.size,fun k hk hl=>(hg.block k (Nat.lt_of_lt_of_le hl h.size) (fun e=>by have:=hr k e.symm;omega)).trans (h.block k hk hl)⟩
abbrev grV (r c:Int) (v:Value):Value:=.agg #[iQ r,iQ c,v]
def zAJ (r c n:Int):Bool:=decide (1<=r/\1<=c/\r * c<=2000/\n=r * c)
def VT.good (e:VT):Bool:=zA4 e.k e.n e.d e.x e.t
def zE5 (r c:Int) (l:List VT):Bool:=zAJ r c l.length && l.all VT.good
theorem zLX {l:List VT} {k:Nat} {e:VT} (he:l[k]?=some e):(l.take (k+1)).all VT.good=((l.take k).all VT.good && e.good):=by
 rw [List.take_add_one,he];simp
theorem zQ4 {l:List VT} {k:Nat} {e:VT} (he:l[k]?=some e) (hb:e.good=false):l.all VT.good=false:=by
 cases h:l.all VT.good with
 | false=>rfl
 | true=>have:=(List.all_eq_true.1 h) e (List.mem_of_getElem? he);rw [hb] at this;cases this
theorem zSG (r c:Int) (v:Value) (l:List VT) (w:World) (h:zB6 w v l) (hl:l.length<=2000000) (ht:∀ e ∈ l,e.t.length<=2000000) :
  Calls Tryz.prog 66 #[grV r c v] w fun e w'=>e=.returned (.bool (zE5 r c l))/\Ext w w':=by
 obtain ⟨p,cap,rfl,hcap,hrow⟩:=h;obtain ⟨n,hn⟩:=nm (l.length);have HN:Hid (l.length=n):=hn;have HG:Hid (zE5 r c l=(zAJ r c n && l.all VT.good)):=by show _=_;unfold zE5;rw [hn]
 obtain ⟨R,hR⟩:=nm (zE5 r c l);rw [hR] at HG ⊢;rw [hn] at hcap hl hrow ⊢;have HRow:Hid (0<n->∃ b o,p=some ⟨b,o,none⟩/\RowV w b o l):=hrow;have HT:Hid (∀ e ∈ l,e.t.length<=2000000):=ht;have X0:=x1 w (.cells #[iQ r,iQ c,.slice p n cap] 35);clear hn hrow hR ht;by_cases h1:r<1
 ·have HF:Hid (false=R):=by show _=_;rw [HG.out,show zAJ r c n=false by simp [zAJ];omega];rfl
  go_enter Tryz.func66,Tryz.ntmps66;go_wp2_with fail;go_ret;exact ⟨zA6 HF.out,X0⟩
 by_cases h2:c<1
 ·have HF:Hid (false=R):=by show _=_;rw [HG.out,show zAJ r c n=false by simp [zAJ];omega];rfl
  go_enter Tryz.func66,Tryz.ntmps66;go_wp2_with fail;go_ret;exact ⟨zA6 HF.out,X0⟩
 have grow1:r<=r * c:=by have:=Int.mul_le_mul_of_nonneg_left (show (1:Int)<=c by omega) (show 0<=r by omega);omega
 have grow2:c<=r * c:=by have:=Int.mul_le_mul_of_nonneg_right (show (1:Int)<=r by omega) (show 0<=c by omega);omega
 by_cases h3:2000<r
 ·have HF:Hid (false=R):=by show _=_;rw [HG.out,show zAJ r c n=false by simp [zAJ];omega];rfl
  clear grow1 grow2;go_enter Tryz.func66,Tryz.ntmps66;go_wp2_with fail;go_ret;exact ⟨zA6 HF.out,X0⟩
 by_cases h4:2000<c
 ·have HF:Hid (false=R):=by show _=_;rw [HG.out,show zAJ r c n=false by simp [zAJ];omega];rfl
  clear grow1 grow2;go_enter Tryz.func66,Tryz.ntmps66;go_wp2_with fail;go_ret;exact ⟨zA6 HF.out,X0⟩
 obtain ⟨m,hm⟩:=nm (r * c);have m0:m<=4000000:=by rw [<- hm];have:=Int.mul_le_mul (show r<=2000 by omega) (show c<=2000 by omega) (by omega) (by omega);omega
 have m1:1<=m:=by omega
 have hwr:IntKind.i64.wrap (r * c)=m:=by rw [hm,IntKind.wrap_i64];omega
 have HS:Hid (zAJ r c n=decide (m<=2000/\(n:Int)=m)):=by
  show _=_;unfold zAJ;rw [hm];exact decide_eq_decide.2 (by omega)
 clear grow1 grow2;by_cases h5:2000<m
 ·have HF:Hid (false=R):=by show _=_;rw [HG.out,HS.out,decide_eq_false (by omega)];rfl
  clear hm;go_enter Tryz.func66,Tryz.ntmps66;go_wp2_with fail;go_ret;exact ⟨zA6 HF.out,X0⟩
 by_cases h6:(n:Int) ≠ m
 ·have HF:Hid (false=R):=by show _=_;rw [HG.out,HS.out,decide_eq_false (by omega)];rfl
  clear hm;go_enter Tryz.func66,Tryz.ntmps66;go_wp2_with fail;go_ret;exact ⟨zA6 HF.out,X0⟩
 have h6':(n:Int)=m:=by omega
 have HF:Hid (l.all VT.good=R):=by show _=_;rw [HG.out,HS.out,decide_eq_true (by omega)];rfl
 clear hm h6 HS HG;subst h6';go_enter Tryz.func66,Tryz.ntmps66;go_wp2_with fail;clear hwr;go_loopw [45] (fun i wr=>∃ k:Nat,k<=n/\i=.int .i64 k/\Hid ((l.take k).all VT.good=true)/\Ext w wr) (fun i _=>n - (intOf i).toNat)
 case atStart=>exact ⟨0,by omega,rfl,by show _=_;simp,X0⟩
 case round =>
  obtain ⟨k,hk,rfl,HA,X⟩:=hrel;by_cases hlt:k<n
  ·obtain ⟨e,he⟩:∃ e,l[k]?=some e:=⟨_,List.getElem?_eq_getElem (by rw [HN.out];exact hlt)⟩;obtain ⟨b,o,rfl,hR⟩:=HRow.out (by omega);obtain ⟨a0,a1,a2,a3,a4⟩:=(hR.l X).five he;have het:=HT.out e (List.mem_of_getElem? he);have HY:Hid ((l.take (k+1)).all VT.good=e.good):=by show _=_;rw [zLX he,HA.out];rfl
   have HZ:Hid (e.good=false->l.all VT.good=false):=fun hb=>zQ4 he hb;have Y:=x1 wr (.cells #[iQ e.k,.bool e.n,iQ e.d,iQ e.x,sV e.t] 26);have C:=fun W=>zHX e.k e.n e.d e.x e.t W het;change ∀ W,Calls _ _ _ _ fun r w'=>r=.returned (.bool e.good)/\_ at C;obtain ⟨q,hq⟩:=nm (e.good);rw [hq] at C HY HZ;clear hq;obtain ⟨ek,en,ed,ex,et⟩:=e;have i2:(k:Int)<(n:Int):=by omega
   clear hR he HA;dsimp only at a0 a1 a2 a3 a4 C Y;go_wp2_with fail;clear a0 a1 a2 a3 a4;refine (C _).mono ?_;rintro rr w' ⟨rfl,E⟩;cases q
   ·have HB:Hid (false=R):=(by show _=_;rw [<- HF.out];exact (HZ.out rfl).symm);go_wp2_with fail;go_ret;exact ⟨zA6 HB.out,xt (xt X Y) E⟩
   ·go_wp2_with fail;go_roundw
    case rel=>exact ⟨k+1,by omega,by go_num,HY,xt (xt X Y) E⟩
    case measure=>simp [intOf];omega
  ·obtain rfl:k=n:=by omega
   have HB:Hid (true=R):=by
    show _=_;rw [<- HF.out];have:=HA.out;rw [List.take_of_length_le (by rw [HN.out];exact Nat.le_refl _)] at this;exact this.symm
   clear HA;go_wp2_with fail;go_ret;exact ⟨zA6 HB.out,X⟩
theorem xdNv {a b:World} (h:Ext a b) (n:Nat):Ext a (b.drewN n):=⟨h.os,h.tape,h.output,h.size,h.block⟩
theorem zSH (r c:Int) (v:Value) (l:List VT) (w:World) (h:zB6 w v l) (hl:l.length<=2000000) (ht:∀ e ∈ l,e.t.length<=2000000) (hd:∀ e ∈ l,-9223372036854775808<=e.d/\e.d<=9223372036854775807) (hT:Tens w) (hE:zAH w) :
  Calls Tryz.prog 62 #[grV r c v] w fun e w'=>e=.returned (.bool (zE5 r c l))/\Ext w w':=by
 obtain ⟨p,cap,rfl,hcap,hrow⟩:=h;obtain ⟨n,hn⟩:=nm (l.length);have HN:Hid (l.length=n):=hn;have HG:Hid (zE5 r c l=(zAJ r c n && l.all VT.good)):=by show _=_;unfold zE5;rw [hn]
 obtain ⟨R,hR⟩:=nm (zE5 r c l);rw [hR] at HG ⊢;rw [hn] at hcap hl hrow ⊢;have HRow:Hid (0<n->∃ b o,p=some ⟨b,o,none⟩/\RowV w b o l):=hrow;have HT:Hid (∀ e ∈ l,e.t.length<=2000000):=ht;have X0:=x1 w (.cells #[iQ r,iQ c,.slice p n cap] 35);have HD:Hid (∀ e ∈ l,-9223372036854775808<=e.d/\e.d<=9223372036854775807):=hd;have HTT:Hid (Tens w):=hT;have HEE:Hid (zAH w):=hE;clear hn hrow hR ht hd hT hE;by_cases h1:r<1
 ·have HF:Hid (false=R):=by show _=_;rw [HG.out,show zAJ r c n=false by simp [zAJ];omega];rfl
  have g1:decide (r<1)=true:=by simpa using h1
  go_enter Tryz.func62,Tryz.ntmps62;go_wp2_with fail;go_quiet (fail);go_wp2_with fail;go_ret;exact ⟨zA6 HF.out,xdNv X0 _⟩
 have g1:decide (r<1)=false:=by simpa using h1
 by_cases h2:c<1
 ·have HF:Hid (false=R):=by show _=_;rw [HG.out,show zAJ r c n=false by simp [zAJ];omega];rfl
  have g2:decide (c<1)=true:=by simpa using h2
  go_enter Tryz.func62,Tryz.ntmps62;go_wp2_with fail;go_quiet (fail);go_wp2_with fail;go_ret;exact ⟨zA6 HF.out,xdNv X0 _⟩
 have g2:decide (c<1)=false:=by simpa using h2
 have hdiv:r<=2000 / c ↔ r * c<=2000:=Int.le_ediv_iff_mul_le (by omega);have htd:Int.tdiv 2000 c=2000 / c:=Int.tdiv_eq_ediv_of_nonneg (by omega);obtain ⟨dv,hdv⟩:=nm (2000 / c);have dv0:0<=dv:=by rw [<- hdv];exact Int.ediv_nonneg (by omega) (by omega)
 have dv1:dv<=2000:=by rw [<- hdv];exact Int.ediv_le_self c (by omega)
 rw [hdv] at hdiv htd;clear hdv;by_cases h5:dv<r
 ·have HF:Hid (false=R):=by
   show _=_;rw [HG.out,show zAJ r c n=false by simp only [zAJ,decide_eq_false_iff_not];omega];rfl
  have g5:decide (dv<r)=true:=by simpa using h5
  clear hdiv;go_enter Tryz.func62,Tryz.ntmps62;go_wp2_with fail;go_quiet (fail);go_wp2_with fail;go_ret;exact ⟨zA6 HF.out,xdNv X0 _⟩
 have g5:decide (dv<r)=false:=by simpa using h5
 obtain ⟨m,hm⟩:=nm (r * c);rw [hm] at hdiv;have m2:m<=2000:=by omega
 have m1:1<=m:=by rw [<- hm];have:=Int.mul_le_mul_of_nonneg_left (show (1:Int)<=c by omega) (show 0<=r by omega);omega
 have hwr:IntKind.i64.wrap (r * c)=m:=by rw [hm,IntKind.wrap_i64];omega
 have HS:Hid (zAJ r c n=decide (m<=2000/\(n:Int)=m)):=by
  show _=_;unfold zAJ;rw [hm];exact decide_eq_decide.2 (by omega)
 clear hdiv;by_cases h6:(n:Int) ≠ m
 ·have HF:Hid (false=R):=by show _=_;rw [HG.out,HS.out,decide_eq_false (by omega)];rfl
  clear hm;have g6:((n:Int) != m)=true:=by simpa using h6
  go_enter Tryz.func62,Tryz.ntmps62;go_wp2_with fail;go_quiet (fail);go_wp2_with fail;go_ret;exact ⟨zA6 HF.out,xdNv X0 _⟩
 have h6':(n:Int)=m:=by omega
 have HF:Hid (l.all VT.good=R):=by show _=_;rw [HG.out,HS.out,decide_eq_true (by omega)];rfl
 clear hm h6 HS HG;subst h6';go_enter Tryz.func62,Tryz.ntmps62;go_wp2_with fail;go_quiet (fail);go_wp2_with fail;clear hwr htd;go_loopw [35] (fun i wr=>∃ k:Nat,k<=n/\i=.int .i64 k/\Hid ((l.take k).all VT.good=true)/\Ext w wr) (fun i _=>n - (intOf i).toNat)
 case atStart=>exact ⟨0,by omega,rfl,by show _=_;simp,xdNv X0 _⟩
 case round =>
  obtain ⟨k,hk,rfl,HA,X⟩:=hrel;by_cases hlt:k<n
  ·obtain ⟨e,he⟩:∃ e,l[k]?=some e:=⟨_,List.getElem?_eq_getElem (by rw [HN.out];exact hlt)⟩;obtain ⟨b,o,rfl,hR⟩:=HRow.out (by omega);obtain ⟨a0,a1,a2,a3,a4⟩:=(hR.l X).five he;have het:=HT.out e (List.mem_of_getElem? he);have HY:Hid ((l.take (k+1)).all VT.good=e.good):=by show _=_;rw [zLX he,HA.out];rfl
   have HZ:Hid (e.good=false->l.all VT.good=false):=fun hb=>zQ4 he hb;have Y:=x1 wr (.cells #[iQ e.k,.bool e.n,iQ e.d,iQ e.x,sV e.t] 26);have hed:=HD.out e (List.mem_of_getElem? he);have C:=zD6 e.k e.n e.d e.x e.t _ het hed.1 hed.2 (HTT.out.l (xt X Y)) (HEE.out.l (xt X Y));change Calls _ _ _ _ fun r w'=>r=.returned (.bool e.good)/\_ at C;clear hed;obtain ⟨q,hq⟩:=nm (e.good);rw [hq] at C HY HZ;clear hq;obtain ⟨ek,en,ed,ex,et⟩:=e;have i2:(k:Int)<(n:Int):=by omega
   clear hR he HA;dsimp only at a0 a1 a2 a3 a4 C Y;go_wp2_with fail;clear a0 a1 a2 a3 a4;refine C.mono ?_;rintro rr w' ⟨rfl,E⟩;cases q
   ·have HB:Hid (false=R):=(by show _=_;rw [<- HF.out];exact (HZ.out rfl).symm);go_wp2_with fail;go_ret;exact ⟨zA6 HB.out,xt (xt X Y) E⟩
   ·go_wp2_with fail;go_roundw
    case rel=>exact ⟨k+1,by omega,by go_num,HY,xt (xt X Y) E⟩
    case measure=>simp [intOf];omega
  ·obtain rfl:k=n:=by omega
   have HB:Hid (true=R):=by
    show _=_;rw [<- HF.out];have:=HA.out;rw [List.take_of_length_le (by rw [HN.out];exact Nat.le_refl _)] at this;exact this.symm
   clear HA;go_wp2_with fail;go_ret;exact ⟨zA6 HB.out,X⟩
end Go.Proofs.YtkadkfmidlhedaaGreatDoor

