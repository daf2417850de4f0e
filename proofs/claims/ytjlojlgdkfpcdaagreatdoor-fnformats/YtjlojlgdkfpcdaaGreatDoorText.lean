/-
  l1Text.
-/
import Derived.Test.YtjlojlgdkfpcdaaGreatDoorMg9
import Derived.OwnWalk
import Derived.Deep.DeepAppendRoom
import Derived.Laws.OwnMore
import Derived.Laws.IdiomStrings
set_option maxRecDepth 8000
set_option maxHeartbeats 2000000
namespace Go.Proofs.YtjlojlgdkfpcdaaGreatDoor
open Go.RowKit
theorem info8:(Tryz.prog.info? 5).map (fun i=>(i.zero,i.size,i.bytes))=some (some (.int .u8 0),1,1):=by kernel_rfl
def ByR (w:World) (B g cap:Nat) (ds:List Int):Prop:=w.ownsRow B 5 1 (.slice (some ⟨g,0,none⟩) ds.length cap) ds.length (ds.map fun d=>Value.int .u8 (48+d))
theorem ByR.l {w w1:World} {B g cap:Nat} {ds:List Int} (h:ByR w B g cap ds) (hb:Ext w w1):ByR w1 B g cap ds:=
 World.ownsRow.kept h (row:=none) ⟨hb.os,hb.tape,hb.output,hb.size,fun k hk _=>hb.block k hk⟩ (.inr (by simp [Value.ownBlock]))
theorem ByR.cell {w:World} {B g cap:Nat} {ds:List Int} (h:ByR w B g cap ds) {j:Nat} (hj:j<ds.length):w.cell? ⟨g,j,none⟩=some (.int .u8 (48+ds.getD j 0)):=by
 rw [World.ownsRow.cellAt h j (by omega)];simp [hj]
theorem ByR.other {w w1:World} {B g g' cap:Nat} {ds:List Int} (h:ByR w B g cap ds) (hg:w.grownBy w1 (some g')) (hne:g ≠ g'):ByR w1 B g cap ds:=
 World.ownsRow.kept h hg (.inr (by simp [Value.ownBlock,hne]))
theorem ByR.conv {w:World} {B g cap L:Nat} {ts:List Int} (h:ByR w B g cap ts) (hL:ts.length=L) (hb:∀ d ∈ ts,-48<=d/\d<10) :
  (convert 22 9 (.slice (some ⟨g,0,none⟩) L cap)).run Tryz.prog w=.ok (.string ⟨(ts.map chr).toArray⟩) w:=by
 subst hL;have:=run_convert_bytes_back (P:=Tryz.prog) w 22 9 5 ⟨g,0,none⟩ cap (ts.map chr) Tryz.underlying22 Tryz.underlying5 Tryz.underlying9 (fun j hj=>by
  have hj':j<ts.length:=by simpa using hj
  have hc:=h.cell hj';have hm:=hb _ (List.getElem_mem hj');rw [show (⟨g,0,none⟩:Addr).add j=⟨g,j,none⟩ by rw [Addr.add_lit,Nat.zero_add],hc];simp only [List.getElem_map,zI3 hm.1 hm.2];simp [hj'])
 rw [List.length_map] at this;exact this
theorem zNE (ds pr:List Int) (j q:Nat) (hq:q<j+1) (hj:j+1<=ds.length):(pr++((ds.take (j+1)).drop (q+1)).reverse)++[ds.getD q 0]=pr++((ds.take (j+1)).drop q).reverse:=by
 have hl:q<(ds.take (j+1)).length:=by simp;omega
 rw [List.drop_eq_getElem_cons hl,List.reverse_cons,List.append_assoc];simp [show q<ds.length by omega]
theorem zUB {v:Value} {z:Int} (w:World) (h:ZV w v z) (k:Nat) (hk:k<=1000000000) (kz:(z.natAbs:Int)<1000000000 ^ k) (hz:z ≠ 0) :
  Calls Tryz.prog 91 #[v] w fun e w'=>∃ l,e=.returned (.string ⟨l.toArray⟩)/\zCO l z/\Ext w w':=by
 obtain ⟨a0,a1,p,n,cap,rfl⟩:=h.shape;obtain ⟨i0,hi,hz0,hz1,hz2⟩:=info_parts info8;go_enter Tryz.func91,Tryz.ntmps91;go_wp2_with fail;refine (zAD _ (h.l (x1 _ _))).mono ?_;rintro e w2 ⟨x,rfl,hx,e2⟩;have B:=(Box3.made w (iQ a0) (.bool a1) (.slice p n cap) 103).l e2;have h2:=(h.l (x1 _ _)).l e2;have X2:=xt (x1 _ _) e2;obtain ⟨xs,⟨px,cx,rfl,cx1,cx2,cx3⟩,lx,tx,vx⟩:=hx;have nx:xs.length<=k:=zEF lx tx (by rw [vx];exact kz);have n0:xs.length ≠ 0:=fun e0=>by
  have:xs=[]:=List.eq_nil_of_length_eq_zero e0;subst this;simp [lv] at vx;omega
 have n0':((xs.length:Int) == 0)=false:=by rw [beq_eq_false_iff_ne];omega
 clear e2 h kz hz;go_wp2_with (at_make;refine wpList_make_own _ rfl _ _ 22 rfl w2.heap.size 5 i0 (.int .u8 0) 1 Tryz.underlying22 hi hz0 hz1 .i64 .i64 _ (9 * xs.length+1) rfl rfl (by omega) (by rw [hz2];omega) (by unfold maxLen;omega) (Nat.le_refl _) ?_;intro w3 hown3 hgrow3);go_loopw [4,23] (fun o i wr=>∃ (m:Nat) (ds:List Int),m<=xs.length/\i=.int .i64 m/\o=.slice (some ⟨w2.heap.size,0,none⟩) ds.length (9 * xs.length+1)/\ByR wr w2.heap.size w2.heap.size (9 * xs.length+1) ds/\zCK xs ds m/\Ext w2 wr) (fun _ i _=>xs.length - (intOf i).toNat)
 case atStart=>exact ⟨0,[],Nat.zero_le _,rfl,rfl,hown3,zCK.start xs,(xr _).grown hgrow3 (Nat.le_refl _) (fun k h=>by cases h)⟩
 case round =>
  obtain ⟨m,ds,hm,rfl,rfl,hR,hL,X⟩:=hrel;clear hown3 hgrow3;by_cases hlt:m<xs.length
  ·have hlt':(m:Int)<(xs.length:Int):=by omega
   have HN:Hid (TextAt xs ds m 0 (xs.getD m 0)):=hL.next lx;obtain ⟨y,hy⟩:=nm (xs.getD m 0);obtain ⟨bx,ox,rfl,kx⟩:∃ b o,px=some ⟨b,o,none⟩/\wr.cell? ⟨b,o+m,none⟩=some (.int .u32 y):=by
    rcases cx3 with ⟨_,h'⟩ | ⟨b,o,e,k⟩
    ·omega
    ·exact ⟨b,o,e,by rw [<- hy];exact (k.l X) m hlt⟩
   rw [hy] at HN;clear hy hL;go_wp2_with fail;go_loopw [4,6,7] (fun o u i wq=>∃ (j:Nat) (es:List Int) (t:Int),j<=9/\i=.int .i64 j/\u=.int .u32 t/\o=.slice (some ⟨w2.heap.size,0,none⟩) es.length (9 * xs.length+1)/\ByR wq w2.heap.size w2.heap.size (9 * xs.length+1) es/\TextAt xs es m j t/\Ext w2 wq) (fun _ _ i _=>9 - (intOf i).toNat)
   case atStart=>exact ⟨0,ds,y,Nat.zero_le _,rfl,rfl,rfl,hR,HN.out,X⟩
   case round =>
    obtain ⟨j,es,t,hj,rfl,rfl,rfl,hQ,hT,X'⟩:=hrel;clear hR HN X kx cx3;by_cases hj9:j<9
    ·have HS:Hid (TextAt xs (es++[t % 10]) m (j+1) (t / 10)):=hT.step hj9;obtain ⟨l1,l2,l3,l4,l6⟩:=hT;have l5:t<1000000000:=Int.lt_of_lt_of_le l4 (by
      have:(10:Int) ^ (9 - j)<=10 ^ 9:=by
       have:=Nat.pow_le_pow_right (n:=10) (by decide) (show 9 - j<=9 by omega);exact_mod_cast this
      exact this)
     have hroom:es.length+1<=9 * xs.length+1:=(by omega);have HR:Hid (ByR wr w2.heap.size w2.heap.size (9 * xs.length+1) es):=hQ;clear l2 l4 l6 hQ;go_wp2_with (at_builtin;refine wpList_append_own_spare _ rfl _ _ 22 rfl w2.heap.size 5 i0 1 Tryz.underlying22 hi hz1 w2.heap.size es.length (9 * xs.length+1) _ rfl (HR.out.l (x1 _ _)) ⟨wr.heap.size,0,none⟩ 1 1 _ rfl rfl (cell_one_new _ _ _) (by intro u hu;simp at hu;subst hu;rfl) hroom ?_;intro w4 hown4 hgrow4);go_roundw
     case rel =>
      refine ⟨j+1,es++[t % 10],t / 10,by omega,by go_num,rfl,by simp [l1],?_,HS.out,(xa X' _).grown hgrow4 (by have:=X'.size;simp;omega) (fun k hk=>by cases hk;exact Nat.le_refl _)⟩;unfold ByR;simpa using hown4
     case measure=>simp [intOf];omega
    ·obtain rfl:j=9:=(by omega);have HD:Hid (zCK xs es (m+1)):=hT.done;have HR:Hid (ByR wr w2.heap.size w2.heap.size (9 * xs.length+1) es):=hQ;clear hT hQ;go_wp2_with fail;go_roundw
     case rel=>exact ⟨m+1,es,by omega,by go_num,rfl,HR.out,HD.out,X'⟩
     case measure=>simp [intOf];omega
  ·obtain rfl:m=xs.length:=by omega
   obtain ⟨d1,d2,d3⟩:=hL;rw [List.take_length] at d3;have HD:Hid (D10 ds/\dv ds=(z.natAbs:Int)/\0<(z.natAbs:Int)):=⟨d2,d3.trans vx,by have:=zPK lx (by omega) (tx.resolve_left n0);have:=zDX (xs.length - 1);omega⟩;have d4:ds.length<=9000000000:=by omega
   have HR:Hid (ByR wr w2.heap.size w2.heap.size (9 * xs.length+1) ds/\ds.length=9 * xs.length):=⟨hR,d1⟩;clear d1 d2 d3 hR vx tx lx cx3;go_wp2_with fail
   go_loop [8] (fun c=>∃ q:Nat,q<=ds.length/\c=.int .i64 q/\dv (ds.take q)=(z.natAbs:Int)) (fun c=>(intOf c).toNat)
   case atStart=>exact ⟨ds.length,Nat.le_refl _,rfl,by rw [List.take_length];exact HD.out.2.1⟩
   case round =>
    obtain ⟨q,hq,rfl,hv⟩:=hrel;have hq0:q ≠ 0:=fun e0=>by
     subst e0;have:=HD.out.2.2;simp [dv] at hv;omega
    obtain ⟨j,rfl⟩:∃ j,q=j+1:=⟨q - 1,by omega⟩;have hcell:=ByR.cell HR.out.1 (j:=j) (by omega);have hd:=D10.getD HD.out.1 j;obtain ⟨d,ed⟩:=nm (ds.getD j 0);rw [ed] at hcell hd;obtain ⟨g0,g1⟩:=hd;have e1:((j+1:Nat):Int)=(j:Int)+1:=(by omega);rw [e1];clear e1;by_cases hd0:d=0
    ·subst hd0;have HN:Hid (dv (ds.take j)=(z.natAbs:Int)):=(by rw [<- zQN (by omega) ed];exact hv);clear hv ed;go_wp2_with fail
     go_round
     case rel=>exact ⟨j,by omega,by go_num,HN.out⟩
     case measure=>simp [intOf]
    ·have HG:Hid (Digs (ds.take (j+1)) (z.natAbs:Int)):=Digs.of HD.out.1 (by omega) (by rw [ed];exact hd0) hv;have hd1:((48+d:Int) == 48)=false:=(by rw [beq_eq_false_iff_ne];omega);clear hv ed;go_wp2_with (at_make;refine wpList_make_own _ rfl _ _ 22 rfl w2.heap.size 5 i0 (.int .u8 0) 1 Tryz.underlying22 hi hz0 hz1 .i64 .i64 _ (j+2) rfl rfl (by omega) (by rw [hz2];omega) (by unfold maxLen;omega) X.size ?_;intro w4 hown4 hgrow4;have Y4:Ext wr w4:=(xr wr).grown hgrow4 (Nat.le_refl _) (fun k h=>by cases h);obtain ⟨⟨q0,q1,q2⟩,_⟩:=B.l (xt X Y4));refine (zDG _ (h2.l (xt X Y4))).mono ?_;rintro e w5 ⟨rfl,e5⟩;have X5:=xt (xt X Y4) e5;have hX:wr.heap.size<w4.heap.size:=by
      rcases hown4.2 with ⟨h0,_⟩ | ⟨g',cap',cur,hv,_,hg,_⟩
      ·cases h0
      ·cases hv;exact (Array.getElem?_eq_some_iff.1 hg).1
     have HR5:Hid (ByR w5 w2.heap.size w2.heap.size (9 * xs.length+1) ds/\ByR w5 w2.heap.size wr.heap.size (j+2) []):=⟨(HR.out.1.l Y4).l e5,ByR.l (ds:=[]) hown4 e5⟩;have hw2:w2.heap.size<wr.heap.size:=by
      rcases HR.out.1.2 with ⟨h0,_⟩ | ⟨g',cap',cur,hv,_,hg,_⟩
      ·cases h0
      ·cases hv;exact (Array.getElem?_eq_some_iff.1 hg).1
     have hw5:wr.heap.size<w5.heap.size:=Nat.lt_of_lt_of_le hX e5.size;clear hown4 hgrow4 Y4 q0 q1 q2 e5 hX hcell hd1 HR;by_cases hzn:z<0
     ·rw [decide_eq_true hzn];go_wp2_with (at_builtin;refine wpList_append_own_spare _ rfl _ _ 22 rfl w2.heap.size 5 i0 1 Tryz.underlying22 hi hz1 wr.heap.size 0 (j+2) _ rfl (HR5.out.2.l (x1 _ _)) ⟨w5.heap.size,0,none⟩ 1 1 _ rfl rfl (cell_one_new _ _ _) (by intro u hu;simp at hu;subst hu;rfl) (by omega) ?_;intro w6 hown6 hgrow6);generalize hGe:wr.heap.size=G at *;have X6:Ext w2 w6:=(xa X5 _).grown hgrow6 (by have:=X5.size;simp;omega) (fun k hk=>by cases hk;omega);obtain ⟨pr,HP0⟩:∃ pr:List Int,Hid (pr=[-3]):=⟨_,rfl⟩;have HP:Hid (pr.map chr=(if z<0 then [45] else [])/\∀ d ∈ pr,-48<=d/\d<10):=by
       rw [HP0.out,if_pos hzn];exact ⟨by decide,by decide⟩
      have pl:pr.length<=1:=(by rw [HP0.out];decide);have AT:∃ (q L:Nat),q<=j+1/\iQ (j:Int)=iQ ((q:Int) - 1)/\Value.slice (some ⟨G,0,none⟩) 1 (j+2)=.slice (some ⟨G,0,none⟩) L (j+2)/\L=pr.length+(j+1 - q)/\ByR w6 w2.heap.size w2.heap.size (9 * xs.length+1) ds/\ByR w6 w2.heap.size G (j+2) (pr++((ds.take (j+1)).drop q).reverse)/\Ext w2 w6/\G<w6.heap.size:=by
       refine ⟨j+1,1,Nat.le_refl _,by congr 1;omega,rfl,by rw [HP0.out];simp,(HR5.out.1.l (x1 _ _)).other hgrow6 (by omega),?_,X6,Nat.lt_of_lt_of_le (Nat.lt_of_lt_of_le hw5 (by simp)) hgrow6.size⟩;rw [HP0.out];have e0:(ds.take (j+1)).drop (j+1)=[]:=List.drop_eq_nil_of_le (by simp;omega);rw [e0];exact hown6
      clear hown6 hgrow6 X6;go_loopw [9,10] (fun o i wq=>∃ (q L:Nat),q<=j+1/\i=.int .i64 ((q:Int) - 1)/\o=.slice (some ⟨G,0,none⟩) L (j+2)/\L=pr.length+(j+1 - q)/\ByR wq w2.heap.size w2.heap.size (9 * xs.length+1) ds/\ByR wq w2.heap.size G (j+2) (pr++((ds.take (j+1)).drop q).reverse)/\Ext w2 wq/\G<wq.heap.size) (fun _ i _=>(intOf i+1).toNat)
      case atStart=>exact AT
      case round =>
       obtain ⟨q,L,hqj,rfl,rfl,hL,hR1,hR2,X6,hG6⟩:=hrel;have hL':L<=1+(j+1 - q):=(by omega);have HL:Hid (L=pr.length+(j+1 - q)):=hL;clear hL AT HR5;cases q with
       | zero =>
        have hcv:=hR2.conv (L:=L) (by rw [HL.out];simp;omega) (fun d hd=>by
         rcases List.mem_append.1 hd with hd | hd
         ·exact HP.out.2 d hd
         ·have:=(HD.out.1.take (j+1)) d (by simpa using hd);omega)
        clear hR1 hR2 hL'
        go_wp2
        go_ret;refine ⟨_,rfl,.inr ⟨ds.take (j+1),HG.out,?_⟩,xt X2 X6⟩;rw [HP.out.1];simp
       | succ q =>
        have hcell:=hR1.cell (j:=q) (by omega);have hd:=D10.getD HD.out.1 q;have HR6:Hid (ByR wr w2.heap.size w2.heap.size (9 * xs.length+1) ds/\ByR wr w2.heap.size G (j+2) (pr++((ds.take (j+1)).drop (q+1)).reverse)):=⟨hR1,hR2⟩;have HS:Hid (_=_):=zNE ds pr j q (by omega) hq;obtain ⟨d,ed⟩:=nm (ds.getD q 0);rw [ed] at hcell hd HS;obtain ⟨f0,f1⟩:=hd;have e1:((q+1:Nat):Int) - 1=(q:Int):=(by omega);have HT:Hid (L=(pr++((ds.take (j+1)).drop (q+1)).reverse).length):=(by rw [HL.out];simp only [List.length_append,List.length_reverse,List.length_drop,List.length_take,Hid];omega);have hroom:L+1<=j+2:=(by omega);rw [e1];clear e1 ed hR1 hR2;go_wp2_with (at_builtin;refine wpList_append_own_spare _ rfl _ _ 22 rfl w2.heap.size 5 i0 1 Tryz.underlying22 hi hz1 G L (j+2) _ rfl (by rw [HT.out];exact HR6.out.2.l (x1 _ _)) ⟨wr.heap.size,0,none⟩ 1 1 _ rfl rfl (cell_one_new _ _ _) (by intro u hu;simp at hu;subst hu;rfl) hroom ?_;intro w7 hown7 hgrow7);go_roundw
        case rel =>
         have hs:=X6.size;refine ⟨q,L+1,by omega,rfl,rfl,by rw [HL.out];omega,?_,?_,(xa X6 _).grown hgrow7 (by simp;omega) (fun k hk=>by cases hk;omega),Nat.lt_of_lt_of_le (Nat.lt_of_lt_of_le hG6 (by simp)) hgrow7.size⟩
         ·exact (HR6.out.1.l (x1 _ _)).other hgrow7 (by omega)
         ·rw [<- HS.out];unfold ByR;rw [HT.out] at hown7;rw [List.length_append,List.length_singleton,List.map_append];exact hown7
        case measure=>simp [intOf]
     ·rw [decide_eq_false hzn];go_wp2_with fail;generalize hGe:wr.heap.size=G at *;obtain ⟨pr,HP0⟩:∃ pr:List Int,Hid (pr=[]):=⟨_,rfl⟩;have HP:Hid (pr.map chr=(if z<0 then [45] else [])/\∀ d ∈ pr,-48<=d/\d<10):=by
       rw [HP0.out,if_neg (by omega)];exact ⟨by decide,by decide⟩
      have pl:pr.length<=1:=(by rw [HP0.out];decide);have AT:∃ (q L:Nat),q<=j+1/\iQ (j:Int)=iQ ((q:Int) - 1)/\Value.slice (some ⟨G,0,none⟩) 0 (j+2)=.slice (some ⟨G,0,none⟩) L (j+2)/\L=pr.length+(j+1 - q)/\ByR w5 w2.heap.size w2.heap.size (9 * xs.length+1) ds/\ByR w5 w2.heap.size G (j+2) (pr++((ds.take (j+1)).drop q).reverse)/\Ext w2 w5/\G<w5.heap.size:=by
       refine ⟨j+1,0,Nat.le_refl _,by congr 1;omega,rfl,by rw [HP0.out];simp,HR5.out.1,?_,X5,hw5⟩;rw [HP0.out];have e0:(ds.take (j+1)).drop (j+1)=[]:=List.drop_eq_nil_of_le (by simp;omega);rw [e0];exact HR5.out.2
      go_loopw [9,10] (fun o i wq=>∃ (q L:Nat),q<=j+1/\i=.int .i64 ((q:Int) - 1)/\o=.slice (some ⟨G,0,none⟩) L (j+2)/\L=pr.length+(j+1 - q)/\ByR wq w2.heap.size w2.heap.size (9 * xs.length+1) ds/\ByR wq w2.heap.size G (j+2) (pr++((ds.take (j+1)).drop q).reverse)/\Ext w2 wq/\G<wq.heap.size) (fun _ i _=>(intOf i+1).toNat)
      case atStart=>exact AT
      case round =>
       obtain ⟨q,L,hqj,rfl,rfl,hL,hR1,hR2,X6,hG6⟩:=hrel;have hL':L<=1+(j+1 - q):=(by omega);have HL:Hid (L=pr.length+(j+1 - q)):=hL;clear hL AT HR5;cases q with
       | zero =>
        have hcv:=hR2.conv (L:=L) (by rw [HL.out];simp;omega) (fun d hd=>by
         rcases List.mem_append.1 hd with hd | hd
         ·exact HP.out.2 d hd
         ·have:=(HD.out.1.take (j+1)) d (by simpa using hd);omega)
        clear hR1 hR2 hL'
        go_wp2
        go_ret;refine ⟨_,rfl,.inr ⟨ds.take (j+1),HG.out,?_⟩,xt X2 X6⟩;rw [HP.out.1];simp
       | succ q =>
        have hcell:=hR1.cell (j:=q) (by omega);have hd:=D10.getD HD.out.1 q;have HR6:Hid (ByR wr w2.heap.size w2.heap.size (9 * xs.length+1) ds/\ByR wr w2.heap.size G (j+2) (pr++((ds.take (j+1)).drop (q+1)).reverse)):=⟨hR1,hR2⟩;have HS:Hid (_=_):=zNE ds pr j q (by omega) hq;obtain ⟨d,ed⟩:=nm (ds.getD q 0);rw [ed] at hcell hd HS;obtain ⟨f0,f1⟩:=hd;have e1:((q+1:Nat):Int) - 1=(q:Int):=(by omega);have HT:Hid (L=(pr++((ds.take (j+1)).drop (q+1)).reverse).length):=(by rw [HL.out];simp only [List.length_append,List.length_reverse,List.length_drop,List.length_take,Hid];omega);have hroom:L+1<=j+2:=(by omega);rw [e1];clear e1 ed hR1 hR2;go_wp2_with (at_builtin;refine wpList_append_own_spare _ rfl _ _ 22 rfl w2.heap.size 5 i0 1 Tryz.underlying22 hi hz1 G L (j+2) _ rfl (by rw [HT.out];exact HR6.out.2.l (x1 _ _)) ⟨wr.heap.size,0,none⟩ 1 1 _ rfl rfl (cell_one_new _ _ _) (by intro u hu;simp at hu;subst hu;rfl) hroom ?_;intro w7 hown7 hgrow7);go_roundw
        case rel =>
         have hs:=X6.size;refine ⟨q,L+1,by omega,rfl,rfl,by rw [HL.out];omega,?_,?_,(xa X6 _).grown hgrow7 (by simp;omega) (fun k hk=>by cases hk;omega),Nat.lt_of_lt_of_le (Nat.lt_of_lt_of_le hG6 (by simp)) hgrow7.size⟩
         ·exact (HR6.out.1.l (x1 _ _)).other hgrow7 (by omega)
         ·rw [<- HS.out];unfold ByR;rw [HT.out] at hown7;rw [List.length_append,List.length_singleton,List.map_append];exact hown7
        case measure=>simp [intOf]
theorem zQU {v:Value} (w:World) (h:ZV w v 0) :
  Calls Tryz.prog 91 #[v] w fun e w'=>∃ l,e=.returned (.string ⟨l.toArray⟩)/\zCO l 0/\Ext w w':=by
 obtain ⟨a0,a1,p,n,cap,rfl⟩:=h.shape;go_enter Tryz.func91,Tryz.ntmps91;go_wp2_with fail;refine (zAD _ (h.l (x1 _ _))).mono ?_;rintro e w2 ⟨x,rfl,hx,e2⟩;obtain ⟨xs,⟨px,cx,rfl,cx1,cx2,cx3⟩,lx,tx,vx⟩:=hx;have n0:xs=[]:=by
  rcases tx with h0 | h0
  ·exact List.eq_nil_of_length_eq_zero h0
  ·by_cases hn:xs.length=0
   ·exact List.eq_nil_of_length_eq_zero hn
   ·have:=zPK lx (by omega) h0;have:=zDX (xs.length - 1);simp at vx;omega
 subst n0;have X2:=xt (x1 _ _) e2;clear e2 cx3 lx tx vx;go_wp2_with fail;go_ret;exact ⟨[48],rfl,.inl ⟨rfl,rfl⟩,X2⟩
theorem zH1 {v:Value} {z:Int} (w:World) (h:ZV w v z) (k:Nat) (hk:k<=1000000000) (kz:(z.natAbs:Int)<1000000000 ^ k) :
  Calls Tryz.prog 91 #[v] w fun e w'=>∃ l,e=.returned (.string ⟨l.toArray⟩)/\zCO l z/\Ext w w':=by
 by_cases hz:z=0
 ·subst hz;exact zQU w h
 ·exact zUB w h k hk kz hz
end Go.Proofs.YtjlojlgdkfpcdaaGreatDoor

