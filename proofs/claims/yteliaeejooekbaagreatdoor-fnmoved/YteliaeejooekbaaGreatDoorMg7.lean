import Derived.Test.YteliaeejooekbaaGreatDoorMg5
import Derived.Test.YteliaeejooekbaaGreatDoorTextNum
import Derived.OwnWalk
import Derived.Deep.DeepAppendRoom
import Derived.Laws.OwnMore
import Derived.Laws.IdiomStrings
import Derived.Test.YteliaeejooekbaaGreatDoorMg4
import Derived.Deep.OwnRows
import Derived.Deep.QuietTactic
import Derived.BigQuiet
import Derived.Deep.RegionWith
set_option maxRecDepth 8000
set_option maxHeartbeats 2000000
namespace Go.Proofs.YteliaeejooekbaaGreatDoor
open Go.RowKit
theorem info8:(Tryz.prog.info? 5).map (fun i=>(i.zero,i.size,i.bytes))=some (some (.int .u8 0),1,1):=by kernel_rfl
def ByR (w:World) (B g cap:Nat) (ds:List Int):Prop:=w.ownsRow B 5 1 (.slice (some ⟨g,0,none⟩) ds.length cap) ds.length (ds.map fun d=>Value.int .u8 (48+d))
theorem ByR.l {w w1:World} {B g cap:Nat} {ds:List Int} (h:ByR w B g cap ds) (hb:Ext w w1):ByR w1 B g cap ds:=
 World.ownsRow.kept h (row:=none) ⟨hb.os,hb.tape,hb.output,hb.size,fun k hk _=>hb.block k hk⟩ (.inr (by simp [Value.ownBlock]))
theorem ByR.cell {w:World} {B g cap:Nat} {ds:List Int} (h:ByR w B g cap ds) {j:Nat} (hj:j<ds.length):w.cell? ⟨g,j,none⟩=some (.int .u8 (48+ds.getD j 0)):=by
 rw [World.ownsRow.cellAt h j (by omega)];simp [hj]
theorem ByR.other {w w1:World} {B g g' cap:Nat} {ds:List Int} (h:ByR w B g cap ds) (hg:w.grownBy w1 (some g')) (hne:g ≠ g'):ByR w1 B g cap ds:=
 World.ownsRow.kept h hg (.inr (by simp [Value.ownBlock,hne]))
theorem ByR.conv {w:World} {B g cap L:Nat} {ts:List Int} (h:ByR w B g cap ts) (hL:ts.length=L) (hb:∀ d ∈ ts,-48<=d/\d<10) :
  (convert 22 9 (.slice (some ⟨g,0,none⟩) L cap)).run Tryz.prog w=.ok (.string ⟨(ts.map chr).toArray⟩) w:=by
 subst hL;have:=run_convert_bytes_back (P:=Tryz.prog) w 22 9 5 ⟨g,0,none⟩ cap (ts.map chr) Tryz.underlying22 Tryz.underlying5 Tryz.underlying9 (fun j hj=>by
  have hj':j<ts.length:=by simpa using hj
  have hc:=h.cell hj';have hm:=hb _ (List.getElem_mem hj');rw [show (⟨g,0,none⟩:Addr).add j=⟨g,j,none⟩ by rw [Addr.add_lit,Nat.zero_add],hc];simp only [List.getElem_map,zTQ hm.1 hm.2];simp [hj'])
 rw [List.length_map] at this;exact this
theorem zKI (ds pr:List Int) (j q:Nat) (hq:q<j+1) (hj:j+1<=ds.length):(pr++((ds.take (j+1)).drop (q+1)).reverse)++[ds.getD q 0]=pr++((ds.take (j+1)).drop q).reverse:=by
 have hl:q<(ds.take (j+1)).length:=by simp;omega
 rw [List.drop_eq_getElem_cons hl,List.reverse_cons,List.append_assoc];simp [show q<ds.length by omega]
theorem zP8 {v:Value} {z:Int} (w:World) (h:ZV w v z) (k:Nat) (hk:k<=1000000000) (kz:(z.natAbs:Int)<1000000000 ^ k) (hz:z ≠ 0) :
  Calls Tryz.prog 97 #[v] w fun e w'=>∃ l,e=.returned (.string ⟨l.toArray⟩)/\zFO l z/\Ext w w':=by
 obtain ⟨a0,a1,p,n,cap,rfl⟩:=h.shape;obtain ⟨i0,hi,hz0,hz1,hz2⟩:=info_parts info8;go_enter Tryz.func97,Tryz.ntmps97;go_wp2_with fail;refine (zAO _ (h.l (x1 _ _))).mono ?_;rintro e w2 ⟨x,rfl,hx,e2⟩;have B:=(Box3.made w (iQ a0) (.bool a1) (.slice p n cap) 137).l e2;have h2:=(h.l (x1 _ _)).l e2;have X2:=xt (x1 _ _) e2;obtain ⟨xs,⟨px,cx,rfl,cx1,cx2,cx3⟩,lx,tx,vx⟩:=hx;have nx:xs.length<=k:=zE0 lx tx (by rw [vx];exact kz);have n0:xs.length ≠ 0:=fun e0=>by
  have:xs=[]:=List.eq_nil_of_length_eq_zero e0;subst this;simp [lv] at vx;omega
 have n0':((xs.length:Int) == 0)=false:=by rw [beq_eq_false_iff_ne];omega
 clear e2 h kz hz;go_wp2_with (at_make;refine wpList_make_own _ rfl _ _ 22 rfl w2.heap.size 5 i0 (.int .u8 0) 1 Tryz.underlying22 hi hz0 hz1 .i64 .i64 _ (9 * xs.length+1) rfl rfl (by omega) (by rw [hz2];omega) (by unfold maxLen;omega) (Nat.le_refl _) ?_;intro w3 hown3 hgrow3);go_loopw [4,23] (fun o i wr=>∃ (m:Nat) (ds:List Int),m<=xs.length/\i=.int .i64 m/\o=.slice (some ⟨w2.heap.size,0,none⟩) ds.length (9 * xs.length+1)/\ByR wr w2.heap.size w2.heap.size (9 * xs.length+1) ds/\zCB xs ds m/\Ext w2 wr) (fun _ i _=>xs.length - (intOf i).toNat)
 case atStart=>exact ⟨0,[],Nat.zero_le _,rfl,rfl,hown3,zCB.start xs,(xr _).grown hgrow3 (Nat.le_refl _) (fun k h=>by cases h)⟩
 case round =>
  obtain ⟨m,ds,hm,rfl,rfl,hR,hL,X⟩:=hrel;clear hown3 hgrow3;by_cases hlt:m<xs.length
  ·have hlt':(m:Int)<(xs.length:Int):=by omega
   have HN:Hid (TextAt xs ds m 0 (xs.getD m 0)):=hL.next lx;obtain ⟨y,hy⟩:=nm (xs.getD m 0);obtain ⟨bx,ox,rfl,kx⟩:∃ b o,px=some ⟨b,o,none⟩/\wr.cell? ⟨b,o+m,none⟩=some (.int .u32 y):=by
    rcases cx3 with ⟨_,h'⟩ | ⟨b,o,e,k⟩
    ·omega
    ·exact ⟨b,o,e,by rw [<- hy];exact (k.l X) m hlt⟩
   rw [hy] at HN;clear hy hL;go_wp2_with fail;go_loopw [4,6,7] (fun o u i wq=>∃ (j:Nat) (es:List Int) (t:Int),j<=9/\i=.int .i64 j/\u=.int .u32 t/\o=.slice (some ⟨w2.heap.size,0,none⟩) es.length (9 * xs.length+1)/\ByR wq w2.heap.size w2.heap.size (9 * xs.length+1) es/\TextAt xs es m j t/\Ext w2 wq) (fun _ _ i _=>9 - (intOf i).toNat)
   case atStart=>exact ⟨0,ds,y,Nat.zero_le _,rfl,rfl,rfl,hR,HN.out,X⟩
   case round =>
    obtain ⟨j,es,t,hj,rfl,rfl,rfl,hQ,hT,X'⟩:=hrel;clear hR HN X kx cx3;by_cases hj9:j<9
    ·have HS:Hid (TextAt xs (es++[t % 10]) m (j+1) (t / 10)):=hT.step hj9;obtain ⟨l1,l2,l3,l4,l6⟩:=hT;have l5:t<1000000000:=Int.lt_of_lt_of_le l4 (by
      have:(10:Int) ^ (9 - j)<=10 ^ 9:=by
       have:=Nat.pow_le_pow_right (n:=10) (by decide) (show 9 - j<=9 by omega);exact_mod_cast this
      exact this)
     have hroom:es.length+1<=9 * xs.length+1:=(by omega);have HR:Hid (ByR wr w2.heap.size w2.heap.size (9 * xs.length+1) es):=hQ;clear l2 l4 l6 hQ;go_wp2_with (at_builtin;refine wpList_append_own_spare _ rfl _ _ 22 rfl w2.heap.size 5 i0 1 Tryz.underlying22 hi hz1 w2.heap.size es.length (9 * xs.length+1) _ rfl (HR.out.l (x1 _ _)) ⟨wr.heap.size,0,none⟩ 1 1 _ rfl rfl (cell_one_new _ _ _) (by intro u hu;simp at hu;subst hu;rfl) hroom ?_;intro w4 hown4 hgrow4);go_roundw
     case rel =>
      refine ⟨j+1,es++[t % 10],t / 10,by omega,by go_num,rfl,by simp [l1],?_,HS.out,(xa X' _).grown hgrow4 (by have:=X'.size;simp;omega) (fun k hk=>by cases hk;exact Nat.le_refl _)⟩;unfold ByR;simpa using hown4
     case measure=>simp [intOf];omega
    ·obtain rfl:j=9:=(by omega);have HD:Hid (zCB xs es (m+1)):=hT.done;have HR:Hid (ByR wr w2.heap.size w2.heap.size (9 * xs.length+1) es):=hQ;clear hT hQ;go_wp2_with fail;go_roundw
     case rel=>exact ⟨m+1,es,by omega,by go_num,rfl,HR.out,HD.out,X'⟩
     case measure=>simp [intOf];omega
  ·obtain rfl:m=xs.length:=by omega
   obtain ⟨d1,d2,d3⟩:=hL;rw [List.take_length] at d3;have HD:Hid (D10 ds/\dv ds=(z.natAbs:Int)/\0<(z.natAbs:Int)):=⟨d2,d3.trans vx,by have:=zLS lx (by omega) (tx.resolve_left n0);have:=zDX (xs.length - 1);omega⟩;have d4:ds.length<=9000000000:=by omega
   have HR:Hid (ByR wr w2.heap.size w2.heap.size (9 * xs.length+1) ds/\ds.length=9 * xs.length):=⟨hR,d1⟩;clear d1 d2 d3 hR vx tx lx cx3;go_wp2_with fail
   go_loop [8] (fun c=>∃ q:Nat,q<=ds.length/\c=.int .i64 q/\dv (ds.take q)=(z.natAbs:Int)) (fun c=>(intOf c).toNat)
   case atStart=>exact ⟨ds.length,Nat.le_refl _,rfl,by rw [List.take_length];exact HD.out.2.1⟩
   case round =>
    obtain ⟨q,hq,rfl,hv⟩:=hrel;have hq0:q ≠ 0:=fun e0=>by
     subst e0;have:=HD.out.2.2;simp [dv] at hv;omega
    obtain ⟨j,rfl⟩:∃ j,q=j+1:=⟨q - 1,by omega⟩;have hcell:=ByR.cell HR.out.1 (j:=j) (by omega);have hd:=D10.getD HD.out.1 j;obtain ⟨d,ed⟩:=nm (ds.getD j 0);rw [ed] at hcell hd;obtain ⟨g0,g1⟩:=hd;have e1:((j+1:Nat):Int)=(j:Int)+1:=(by omega);rw [e1];clear e1;by_cases hd0:d=0
    ·subst hd0;have HN:Hid (dv (ds.take j)=(z.natAbs:Int)):=(by rw [<- zME (by omega) ed];exact hv);clear hv ed;go_wp2_with fail
     go_round
     case rel=>exact ⟨j,by omega,by go_num,HN.out⟩
     case measure=>simp [intOf]
    ·have HG:Hid (Digs (ds.take (j+1)) (z.natAbs:Int)):=Digs.of HD.out.1 (by omega) (by rw [ed];exact hd0) hv;have hd1:((48+d:Int) == 48)=false:=(by rw [beq_eq_false_iff_ne];omega);clear hv ed;go_wp2_with (at_make;refine wpList_make_own _ rfl _ _ 22 rfl w2.heap.size 5 i0 (.int .u8 0) 1 Tryz.underlying22 hi hz0 hz1 .i64 .i64 _ (j+2) rfl rfl (by omega) (by rw [hz2];omega) (by unfold maxLen;omega) X.size ?_;intro w4 hown4 hgrow4;have Y4:Ext wr w4:=(xr wr).grown hgrow4 (Nat.le_refl _) (fun k h=>by cases h);obtain ⟨⟨q0,q1,q2⟩,_⟩:=B.l (xt X Y4));refine (zD2 _ (h2.l (xt X Y4))).mono ?_;rintro e w5 ⟨rfl,e5⟩;have X5:=xt (xt X Y4) e5;have hX:wr.heap.size<w4.heap.size:=by
      rcases hown4.2 with ⟨h0,_⟩ | ⟨g',cap',cur,hv,_,hg,_⟩
      ·cases h0
      ·cases hv;exact (Array.getElem?_eq_some_iff.1 hg).1
     have HR5:Hid (ByR w5 w2.heap.size w2.heap.size (9 * xs.length+1) ds/\ByR w5 w2.heap.size wr.heap.size (j+2) []):=⟨(HR.out.1.l Y4).l e5,ByR.l (ds:=[]) hown4 e5⟩;have hw2:w2.heap.size<wr.heap.size:=by
      rcases HR.out.1.2 with ⟨h0,_⟩ | ⟨g',cap',cur,hv,_,hg,_⟩
      ·cases h0
      ·cases hv;exact (Array.getElem?_eq_some_iff.1 hg).1
     have hw5:wr.heap.size<w5.heap.size:=Nat.lt_of_lt_of_le hX e5.size;clear hown4 hgrow4 Y4 q0 q1 q2 e5 hX hcell hd1 HR;by_cases hzn:z<0
     ·rw [decide_eq_true hzn];go_wp2_with (at_builtin;refine wpList_append_own_spare _ rfl _ _ 22 rfl w2.heap.size 5 i0 1 Tryz.underlying22 hi hz1 wr.heap.size 0 (j+2) _ rfl (HR5.out.2.l (x1 _ _)) ⟨w5.heap.size,0,none⟩ 1 1 _ rfl rfl (cell_one_new _ _ _) (by intro u hu;simp at hu;subst hu;rfl) (by omega) ?_;intro w6 hown6 hgrow6);generalize hGe:wr.heap.size=G at *;have X6:Ext w2 w6:=(xa X5 _).grown hgrow6 (by have:=X5.size;simp;omega) (fun k hk=>by cases hk;omega);obtain ⟨pr,HP0⟩:∃ pr:List Int,Hid (pr=[-3]):=⟨_,rfl⟩;have HP:Hid (pr.map chr=(if z<0 then [45] else [])/\∀ d ∈ pr,-48<=d/\d<10):=by
       rw [HP0.out,if_pos hzn];exact ⟨by decide,by decide⟩
      have pl:pr.length<=1:=(by rw [HP0.out];decide);have AT:∃ (q L:Nat),q<=j+1/\iQ (j:Int)=iQ ((q:Int) - 1)/\Value.slice (some ⟨G,0,none⟩) 1 (j+2)=.slice (some ⟨G,0,none⟩) L (j+2)/\L=pr.length+(j+1 - q)/\ByR w6 w2.heap.size w2.heap.size (9 * xs.length+1) ds/\ByR w6 w2.heap.size G (j+2) (pr++((ds.take (j+1)).drop q).reverse)/\Ext w2 w6/\G<w6.heap.size:=by
       refine ⟨j+1,1,Nat.le_refl _,by congr 1;omega,rfl,by rw [HP0.out];simp,(HR5.out.1.l (x1 _ _)).other hgrow6 (by omega),?_,X6,Nat.lt_of_lt_of_le (Nat.lt_of_lt_of_le hw5 (by simp)) hgrow6.size⟩;rw [HP0.out];have e0:(ds.take (j+1)).drop (j+1)=[]:=List.drop_eq_nil_of_le (by simp;omega);rw [e0];exact hown6
      clear hown6 hgrow6 X6;go_loopw [9,10] (fun o i wq=>∃ (q L:Nat),q<=j+1/\i=.int .i64 ((q:Int) - 1)/\o=.slice (some ⟨G,0,none⟩) L (j+2)/\L=pr.length+(j+1 - q)/\ByR wq w2.heap.size w2.heap.size (9 * xs.length+1) ds/\ByR wq w2.heap.size G (j+2) (pr++((ds.take (j+1)).drop q).reverse)/\Ext w2 wq/\G<wq.heap.size) (fun _ i _=>(intOf i+1).toNat)
      case atStart=>exact AT
      case round =>
       obtain ⟨q,L,hqj,rfl,rfl,hL,hR1,hR2,X6,hG6⟩:=hrel;have hL':L<=1+(j+1 - q):=(by omega);have HL:Hid (L=pr.length+(j+1 - q)):=hL;clear hL AT HR5;cases q with
       | zero =>
        have hcv:=hR2.conv (L:=L) (by rw [HL.out];simp;omega) (fun d hd=>by
         rcases List.mem_append.1 hd with hd | hd
         ·exact HP.out.2 d hd
         ·have:=(HD.out.1.take (j+1)) d (by simpa using hd);omega)
        clear hR1 hR2 hL'
        go_wp2
        go_ret;refine ⟨_,rfl,.inr ⟨ds.take (j+1),HG.out,?_⟩,xt X2 X6⟩;rw [HP.out.1];simp
       | succ q =>
        have hcell:=hR1.cell (j:=q) (by omega);have hd:=D10.getD HD.out.1 q;have HR6:Hid (ByR wr w2.heap.size w2.heap.size (9 * xs.length+1) ds/\ByR wr w2.heap.size G (j+2) (pr++((ds.take (j+1)).drop (q+1)).reverse)):=⟨hR1,hR2⟩;have HS:Hid (_=_):=zKI ds pr j q (by omega) hq;obtain ⟨d,ed⟩:=nm (ds.getD q 0);rw [ed] at hcell hd HS;obtain ⟨f0,f1⟩:=hd;have e1:((q+1:Nat):Int) - 1=(q:Int):=(by omega);have HT:Hid (L=(pr++((ds.take (j+1)).drop (q+1)).reverse).length):=(by rw [HL.out];simp only [List.length_append,List.length_reverse,List.length_drop,List.length_take,Hid];omega);have hroom:L+1<=j+2:=(by omega);rw [e1];clear e1 ed hR1 hR2;go_wp2_with (at_builtin;refine wpList_append_own_spare _ rfl _ _ 22 rfl w2.heap.size 5 i0 1 Tryz.underlying22 hi hz1 G L (j+2) _ rfl (by rw [HT.out];exact HR6.out.2.l (x1 _ _)) ⟨wr.heap.size,0,none⟩ 1 1 _ rfl rfl (cell_one_new _ _ _) (by intro u hu;simp at hu;subst hu;rfl) hroom ?_;intro w7 hown7 hgrow7);go_roundw
        case rel =>
         have hs:=X6.size;refine ⟨q,L+1,by omega,rfl,rfl,by rw [HL.out];omega,?_,?_,(xa X6 _).grown hgrow7 (by simp;omega) (fun k hk=>by cases hk;omega),Nat.lt_of_lt_of_le (Nat.lt_of_lt_of_le hG6 (by simp)) hgrow7.size⟩
         ·exact (HR6.out.1.l (x1 _ _)).other hgrow7 (by omega)
         ·rw [<- HS.out];unfold ByR;rw [HT.out] at hown7;rw [List.length_append,List.length_singleton,List.map_append];exact hown7
        case measure=>simp [intOf]
     ·rw [decide_eq_false hzn];go_wp2_with fail;generalize hGe:wr.heap.size=G at *;obtain ⟨pr,HP0⟩:∃ pr:List Int,Hid (pr=[]):=⟨_,rfl⟩;have HP:Hid (pr.map chr=(if z<0 then [45] else [])/\∀ d ∈ pr,-48<=d/\d<10):=by
       rw [HP0.out,if_neg (by omega)];exact ⟨by decide,by decide⟩
      have pl:pr.length<=1:=(by rw [HP0.out];decide);have AT:∃ (q L:Nat),q<=j+1/\iQ (j:Int)=iQ ((q:Int) - 1)/\Value.slice (some ⟨G,0,none⟩) 0 (j+2)=.slice (some ⟨G,0,none⟩) L (j+2)/\L=pr.length+(j+1 - q)/\ByR w5 w2.heap.size w2.heap.size (9 * xs.length+1) ds/\ByR w5 w2.heap.size G (j+2) (pr++((ds.take (j+1)).drop q).reverse)/\Ext w2 w5/\G<w5.heap.size:=by
       refine ⟨j+1,0,Nat.le_refl _,by congr 1;omega,rfl,by rw [HP0.out];simp,HR5.out.1,?_,X5,hw5⟩;rw [HP0.out];have e0:(ds.take (j+1)).drop (j+1)=[]:=List.drop_eq_nil_of_le (by simp;omega);rw [e0];exact HR5.out.2
      go_loopw [9,10] (fun o i wq=>∃ (q L:Nat),q<=j+1/\i=.int .i64 ((q:Int) - 1)/\o=.slice (some ⟨G,0,none⟩) L (j+2)/\L=pr.length+(j+1 - q)/\ByR wq w2.heap.size w2.heap.size (9 * xs.length+1) ds/\ByR wq w2.heap.size G (j+2) (pr++((ds.take (j+1)).drop q).reverse)/\Ext w2 wq/\G<wq.heap.size) (fun _ i _=>(intOf i+1).toNat)
      case atStart=>exact AT
      case round =>
       obtain ⟨q,L,hqj,rfl,rfl,hL,hR1,hR2,X6,hG6⟩:=hrel;have hL':L<=1+(j+1 - q):=(by omega);have HL:Hid (L=pr.length+(j+1 - q)):=hL;clear hL AT HR5;cases q with
       | zero =>
        have hcv:=hR2.conv (L:=L) (by rw [HL.out];simp;omega) (fun d hd=>by
         rcases List.mem_append.1 hd with hd | hd
         ·exact HP.out.2 d hd
         ·have:=(HD.out.1.take (j+1)) d (by simpa using hd);omega)
        clear hR1 hR2 hL'
        go_wp2
        go_ret;refine ⟨_,rfl,.inr ⟨ds.take (j+1),HG.out,?_⟩,xt X2 X6⟩;rw [HP.out.1];simp
       | succ q =>
        have hcell:=hR1.cell (j:=q) (by omega);have hd:=D10.getD HD.out.1 q;have HR6:Hid (ByR wr w2.heap.size w2.heap.size (9 * xs.length+1) ds/\ByR wr w2.heap.size G (j+2) (pr++((ds.take (j+1)).drop (q+1)).reverse)):=⟨hR1,hR2⟩;have HS:Hid (_=_):=zKI ds pr j q (by omega) hq;obtain ⟨d,ed⟩:=nm (ds.getD q 0);rw [ed] at hcell hd HS;obtain ⟨f0,f1⟩:=hd;have e1:((q+1:Nat):Int) - 1=(q:Int):=(by omega);have HT:Hid (L=(pr++((ds.take (j+1)).drop (q+1)).reverse).length):=(by rw [HL.out];simp only [List.length_append,List.length_reverse,List.length_drop,List.length_take,Hid];omega);have hroom:L+1<=j+2:=(by omega);rw [e1];clear e1 ed hR1 hR2;go_wp2_with (at_builtin;refine wpList_append_own_spare _ rfl _ _ 22 rfl w2.heap.size 5 i0 1 Tryz.underlying22 hi hz1 G L (j+2) _ rfl (by rw [HT.out];exact HR6.out.2.l (x1 _ _)) ⟨wr.heap.size,0,none⟩ 1 1 _ rfl rfl (cell_one_new _ _ _) (by intro u hu;simp at hu;subst hu;rfl) hroom ?_;intro w7 hown7 hgrow7);go_roundw
        case rel =>
         have hs:=X6.size;refine ⟨q,L+1,by omega,rfl,rfl,by rw [HL.out];omega,?_,?_,(xa X6 _).grown hgrow7 (by simp;omega) (fun k hk=>by cases hk;omega),Nat.lt_of_lt_of_le (Nat.lt_of_lt_of_le hG6 (by simp)) hgrow7.size⟩
         ·exact (HR6.out.1.l (x1 _ _)).other hgrow7 (by omega)
         ·rw [<- HS.out];unfold ByR;rw [HT.out] at hown7;rw [List.length_append,List.length_singleton,List.map_append];exact hown7
        case measure=>simp [intOf]
theorem zMJ {v:Value} (w:World) (h:ZV w v 0) :
  Calls Tryz.prog 97 #[v] w fun e w'=>∃ l,e=.returned (.string ⟨l.toArray⟩)/\zFO l 0/\Ext w w':=by
 obtain ⟨a0,a1,p,n,cap,rfl⟩:=h.shape;go_enter Tryz.func97,Tryz.ntmps97;go_wp2_with fail;refine (zAO _ (h.l (x1 _ _))).mono ?_;rintro e w2 ⟨x,rfl,hx,e2⟩;obtain ⟨xs,⟨px,cx,rfl,cx1,cx2,cx3⟩,lx,tx,vx⟩:=hx;have n0:xs=[]:=by
  rcases tx with h0 | h0
  ·exact List.eq_nil_of_length_eq_zero h0
  ·by_cases hn:xs.length=0
   ·exact List.eq_nil_of_length_eq_zero hn
   ·have:=zLS lx (by omega) h0;have:=zDX (xs.length - 1);simp at vx;omega
 subst n0;have X2:=xt (x1 _ _) e2;clear e2 cx3 lx tx vx;go_wp2_with fail;go_ret;exact ⟨[48],rfl,.inl ⟨rfl,rfl⟩,X2⟩
theorem zKA {v:Value} {z:Int} (w:World) (h:ZV w v z) (k:Nat) (hk:k<=1000000000) (kz:(z.natAbs:Int)<1000000000 ^ k) :
  Calls Tryz.prog 97 #[v] w fun e w'=>∃ l,e=.returned (.string ⟨l.toArray⟩)/\zFO l z/\Ext w w':=by
 by_cases hz:z=0
 ·subst hz;exact zMJ w h
 ·exact zP8 w h k hk kz hz
theorem zDI {xs:List Int} {j:Nat} (hj:j<xs.length) (h0:xs.getD j 0=0):lv (xs.take (j+1))=lv (xs.take j):=by
 rw [zCZ xs j hj,h0];simp
theorem zSN (xs:List Int) (i k:Nat) (h:i<k) (hk:k<=xs.length):lv ((xs.take k).drop i)=lv ((xs.take k).drop (i+1)) * 1000000000+xs.getD i 0:=by
 have hi:i<(xs.take k).length:=by simp;omega
 rw [List.drop_eq_getElem_cons hi];have hi':i<xs.length:=by omega
 simp [lv,hi'];omega
theorem zQ2 {xs:List Int} (h:Lim xs) (hn:xs.length<=1):0<=lv xs/\lv xs<1000000000:=by
 match xs,h,hn with
 | [],_,_=>simp [lv]
 | [x],h,_=>have:=h.head;simp [lv];omega
theorem zUT {xs:List Int} (h:Lim xs) (hn:xs.length<=2):0<=lv xs/\lv xs<1000000000000000000:=by
 match xs,h,hn with
 | [],_,_=>simp [lv]
 | [x],h,_=>have:=h.head;simp [lv];omega
 | [x,y],h,_=>have:=h.head;have:=h.tail.head;simp [lv];omega
theorem ZV.of_sgn (w:World) {neg:Bool} {z:Int} (h1:0<=z) (h2:z<1000000000000000000):ZV w (zS (if neg then -z else z)) (sgn neg z):=by
 cases neg
 ·exact ZV.small (by simp;omega) (by simp;omega)
 ·exact ZV.small (by simp;omega) (by simp;omega)
theorem zF3 {xs:List Int} {k i:Nat} (h:i<k):(xs.take k).getD i 0=xs.getD i 0:=by
 simp [List.getD_eq_getElem?_getD,h]
theorem zNK (neg:Bool) (b o cap:Nat) (xs:List Int) (w:World) (hc:xs.length<=cap) (hcap:cap<=9223372036854775807) (hx:C32 w b o xs) (hl:Lim xs) :
  Calls Tryz.prog 110 #[.bool neg,.slice (some ⟨b,o,none⟩) xs.length cap] w fun e w'=>∃ v',e=.returned v'/\ZV w' v' (sgn neg (lv xs))/\Ext w w':=by
 have HX:Hid (∀ o1 i,i<xs.length->(w.alloc o1).cell? ⟨b,o+i,none⟩=some (.int .u32 (xs.getD i 0))):=fun o1 i hi=>Lib.cell?_alloc_some o1 (hx i hi);go_enter Tryz.func110,Tryz.ntmps110
 go_wp2
 go_loop [5] (fun n=>∃ k:Nat,k<=xs.length/\n=.int .i64 k/\lv (xs.take k)=lv xs) (fun n=>(intOf n).toNat)
 case atStart=>exact ⟨xs.length,Nat.le_refl _,rfl,by simp⟩
 case round =>
  obtain ⟨k,hk,rfl,hv⟩:=hrel;have HV:Hid _:=hv;clear hv;by_cases h0:k=0
  ·subst h0;have HV':Hid (sgn neg (lv xs)=0):=by rw [<- HV.out];cases neg <;> simp [lv,sgn,Hid]
   go_wp2
   go_loop [6,7] (fun v i=>v=.int .i64 0/\i=.int .i64 (-1)) (fun _ _=>0)
   case atStart=>exact ⟨rfl,rfl⟩
   case round =>
    obtain ⟨rfl,rfl⟩:=hrel;cases neg
    all_goals go_wp2
    all_goals exact bodyPost_ret (v:=zS 0) (by simp [results,Tryz.results110,go_sem]) rfl ⟨_,rfl,by rw [HV'.out];exact ZV.small (by decide) (by decide),x1 _ _⟩
  ·obtain ⟨j,rfl⟩:∃ j,k=j+1:=⟨k - 1,by omega⟩;have hj:j<xs.length:=by omega
   by_cases hz:xs.getD j 0=0
   ·have hcell:=fun o1=>HX.out o1 j hj;rw [hz] at hcell;have HN:Hid (lv (xs.take j)=lv xs):=(by have:=HV.out;rw [zDI hj hz] at this;exact this);clear h0 hz
    go_wp2
    go_round
    case rel=>exact ⟨j,by omega,by go_num,HN.out⟩
    case measure=>simp [intOf]
   ·have hcell:=fun o1=>HX.out o1 j hj;obtain ⟨x,hxj⟩:=nm (xs.getD j 0);rw [hxj] at hcell hz;have hz':(x == 0)=false:=(by rw [beq_eq_false_iff_ne];exact hz);have HT:Hid (Top (xs.take (j+1))):=by
     refine .inr ?_;have e:(xs.take (j+1)).length - 1=j:=(by simp;omega);rw [e,zF3 (by omega),hxj];exact hz
    clear h0 hxj hz;by_cases h2:j+1 > 2
    ·have h2':(2:Int)<(j:Int)+1:=by omega
     go_wp2
     have e:(xs.take (j+1)).length=j+1:=(by simp;omega);refine bodyPost_ret (v:=zB neg ⟨b,o,none⟩ (j+1) cap) (by simp [results,Tryz.results110,go_sem]) rfl ⟨_,rfl,.inr ⟨neg,b,o,cap,xs.take (j+1),by rw [e],by omega,hcap,?_,hl.take _,by omega,HT.out,by rw [HV.out]⟩,x1 _ _⟩;intro i hi;rw [zF3 (by omega)];exact Lib.cell?_alloc_some _ (hx i (by omega))
    ·have h2':(j:Int)+1<=2:=(by omega);have hl2:=hl.take (j+1);have LB:Hid (0<=lv xs/\lv xs<1000000000000000000):=by have:=zUT hl2 (by simp;omega);rw [HV.out] at this;exact this
     go_wp2
     go_loop [6,7] (fun v i=>∃ m:Nat,m<=j+1/\i=.int .i64 ((m:Int) - 1)/\v=.int .i64 (lv ((xs.take (j+1)).drop m))) (fun _ i=>(intOf i+1).toNat)
     case atStart=>exact ⟨j+1,Nat.le_refl _,by go_num,by simp [lv]⟩
     case round =>
      obtain ⟨m,hm,rfl,rfl⟩:=hrel;by_cases hm0:m=0
      ·subst hm0;obtain ⟨l1,l2⟩:=LB.out;have hv0:lv ((xs.take (j+1)).drop 0)=lv xs:=HV.out;rw [hv0];cases neg
       ·go_wp2
        exact bodyPost_ret (v:=zS (lv xs)) (by simp [results,Tryz.results110,go_sem]) rfl ⟨_,rfl,ZV.of_sgn (neg:=false) _ l1 l2,x1 _ _⟩
       ·go_wp2
        exact bodyPost_ret (v:=zS (-lv xs)) (by simp [results,Tryz.results110,go_sem]) rfl ⟨_,rfl,ZV.of_sgn (neg:=true) _ l1 l2,x1 _ _⟩
      ·obtain ⟨i,rfl⟩:∃ i,m=i+1:=⟨m - 1,by omega⟩;have hi:i<xs.length:=(by omega);have hci:=fun o1=>HX.out o1 i hi;have hlx:=hl.getD i;have HS:Hid (lv ((xs.take (j+1)).drop i)=lv ((xs.take (j+1)).drop (i+1)) * 1000000000+xs.getD i 0):=zSN xs i (j+1) (by omega) (by omega);have hls:=zQ2 ((hl.take (j+1)).drop (i+1)) (by simp;omega);obtain ⟨y,hy⟩:=nm (xs.getD i 0);obtain ⟨v,hv⟩:=nm (lv ((xs.take (j+1)).drop (i+1)));rw [hy] at hci hlx HS;rw [hv] at hls HS;rw [hv];obtain ⟨y1,y2⟩:=hlx;obtain ⟨v1,v2⟩:=hls;have e1:(((i+1:Nat):Int) - 1)=(i:Int):=(by omega);rw [e1];clear hy hv e1 hm0 hcell hz' h2'
       go_wp2
       go_round
       case rel=>exact ⟨i,by omega,by go_num,by rw [HS.out]⟩
       case measure=>simp [intOf]
theorem zNL (neg:Bool) (w:World) :
  Calls Tryz.prog 110 #[.bool neg,.slice none 0 0] w fun e w'=>∃ v',e=.returned v'/\ZV w' v' (sgn neg 0)/\Ext w w':=by
 have HV':Hid (sgn neg 0=0):=by cases neg <;> simp [sgn,Hid]
 rw [HV'.out];go_enter Tryz.func110,Tryz.ntmps110
 go_wp2
 go_loop [5] (fun n=>n=.int .i64 0) (fun _=>0)
 case atStart=>rfl
 case round =>
  subst hrel
  go_wp2
  go_loop [6,7] (fun v i=>v=.int .i64 0/\i=.int .i64 (-1)) (fun _ _=>0)
  case atStart=>exact ⟨rfl,rfl⟩
  case round =>
   obtain ⟨rfl,rfl⟩:=hrel;cases neg
   all_goals go_wp2
   all_goals exact bodyPost_ret (v:=zS 0) (by simp [results,Tryz.results110,go_sem]) rfl ⟨_,rfl,ZV.small (by decide) (by decide),x1 _ _⟩
theorem zEX (neg:Bool) {v:Value} {xs:List Int} (w:World) (h:Row w v xs) (hl:Lim xs) :
  Calls Tryz.prog 110 #[.bool neg,v] w fun e w'=>∃ v',e=.returned v'/\ZV w' v' (sgn neg (lv xs))/\Ext w w':=by
 obtain ⟨p,cap,rfl,h1,h2,h3⟩:=h
 rcases h3 with ⟨rfl,rfl⟩ | ⟨b,o,rfl,h3⟩
 ·obtain rfl:xs=[]:=List.eq_nil_of_length_eq_zero (by omega);exact zNL neg w
 ·exact zNK neg b o cap xs w h1 h2 h3 hl
end Go.Proofs.YteliaeejooekbaaGreatDoor
namespace Go.Proofs.YteliaeejooekbaaGreatDoor
def zEE (xs ys fs:List Int) (i j:Nat) (c:Int):Prop:=
 fs.length=xs.length+ys.length+1/\Lim fs/\(∀ n,i+ys.length<=n->fs.getD n 0=0)/\0<=c/\c<1000000000 /\
 lv fs+1000000000 ^ (i+j) * c=lv (xs.take i) * lv ys+xs.getD i 0 * (1000000000 ^ i * lv (ys.take j))
theorem zEE.start {xs ys fs:List Int} {i:Nat} (h1:fs.length=xs.length+ys.length+1) (h2:Lim fs) (h3:∀ n,i+ys.length<=n->fs.getD n 0=0) (h4:lv fs=lv (xs.take i) * lv ys):zEE xs ys fs i 0 0:=
 ⟨h1,h2,h3,by decide,by decide,by simp [lv,h4]⟩
theorem zFD {x y f c:Int} (x0:0<=x) (x1:x<1000000000) (y0:0<=y) (y1:y<1000000000) (f0:0<=f) (f1:f<1000000000) (c0:0<=c) (c1:c<1000000000) :
  0<=x * y/\x * y<=999999998000000001/\f+x * y+c<1000000000000000000:=by
 have h0:0<=x * y:=Int.mul_nonneg x0 y0;have h1:x * y<=999999999 * 999999999:=Int.mul_le_mul (by omega) (by omega) y0 (by decide);omega
theorem zEE.step {xs ys fs:List Int} {i j:Nat} {c x y f:Int} (h:zEE xs ys fs i j c) (hi:i<xs.length) (hj:j<ys.length) (lx:Lim xs) (ly:Lim ys)
  (ex:xs.getD i 0=x) (ey:ys.getD j 0=y) (ef:fs.getD (i+j) 0=f) :
  zEE xs ys (fs.set (i+j) ((f+x * y+c) % 1000000000)) i (j+1) ((f+x * y+c) / 1000000000):=by
 obtain ⟨h1,h2,h3,c0,c1,h4⟩:=h;have hx:=lx.getD i;have hy:=ly.getD j;have hf:=h2.getD (i+j);rw [ex] at hx h4;rw [ey] at hy;rw [ef] at hf;obtain ⟨m0,m1,m2⟩:=zFD hx.1 hx.2 hy.1 hy.2 hf.1 hf.2 c0 c1;refine ⟨by simpa using h1,h2.set _ (by omega) (by omega),?_,by omega,by omega,?_⟩
 ·intro n hn;rw [zBT (by omega),if_neg (by omega)];exact h3 n hn
 ·rw [zGE _ _ _ (by omega),ef,ex,zCZ ys j hj,ey];have e1:(1000000000:Int) ^ (i+(j+1))=1000000000 ^ (i+j) * 1000000000:=by rw [<- Nat.add_assoc,Int.pow_succ]
  have e2:(1000000000:Int) ^ (i+j)=1000000000 ^ i * 1000000000 ^ j:=Int.pow_add _ _ _;have e3:(f+x * y+c) % 1000000000+1000000000 * ((f+x * y+c) / 1000000000)=f+x * y+c:=Int.emod_add_mul_ediv _ _;rw [e1];generalize (f+x * y+c) / 1000000000=q at *;generalize (f+x * y+c) % 1000000000=r at *;have e4:r=f+x * y+c - 1000000000 * q:=by omega
  subst e4;rw [e2] at h4 ⊢;generalize (1000000000:Int) ^ i=p at *;generalize (1000000000:Int) ^ j=s at *;generalize lv fs=F at *;generalize lv (List.take j ys)=Y at *;generalize lv (List.take i xs) * lv ys=P at *;simp only [Int.mul_add,Int.mul_sub,Int.mul_assoc,Int.mul_comm,Int.mul_left_comm] at h4 ⊢;omega
theorem zEE.close {xs ys fs:List Int} {i:Nat} {c:Int} (h:zEE xs ys fs i ys.length c) (hi:i<xs.length) :
  (fs.set (i+ys.length) c).length=xs.length+ys.length+1/\Lim (fs.set (i+ys.length) c)/\(∀ n,(i+1)+ys.length<=n->(fs.set (i+ys.length) c).getD n 0=0)/\lv (fs.set (i+ys.length) c)=lv (xs.take (i+1)) * lv ys:=by
 obtain ⟨h1,h2,h3,c0,c1,h4⟩:=h;refine ⟨by simpa using h1,h2.set _ c0 c1,?_,?_⟩
 ·intro n hn;rw [zBT (by omega),if_neg (by omega)];exact h3 n (by omega)
 ·rw [zGE _ _ _ (by omega),h3 _ (Nat.le_refl _),zCZ xs i hi];simp only [List.take_length] at h4;simp only [Int.sub_zero,Int.add_mul];rw [h4];simp only [Int.mul_assoc,Int.mul_comm]
end Go.Proofs.YteliaeejooekbaaGreatDoor
namespace Go.Proofs.YteliaeejooekbaaGreatDoor
open Go.RowKit
theorem zEH:(Tryz.prog.info? 150).map (fun i=>(i.zero,i.size,i.bytes))=some (some (.int .u32 0),1,4):=by kernel_rfl
abbrev zAS (w:World) (g:Nat) (fs:List Int):Prop:=w.rowIs g 150 fs.length (fun j=>.int .u32 (fs.getD j 0))
theorem zAS.zeros (w:World) (n:Nat):zAS (w.alloc (.cells (madeCells #[.int .u32 0] n) 150)) w.heap.size (List.replicate n 0):=by
 have:=World.rowIs_made w (.int .u32 0) n 150;unfold zAS;rw [List.length_replicate];exact this.congr (fun i _=>by rw [zBB])
theorem zAS.set {w:World} {g:Nat} {fs:List Int} (h:zAS w g fs) (i:Nat) (hi:i<fs.length) (v:Int):zAS (w.setCell ⟨g,i,none⟩ (.int .u32 v)) g (fs.set i v):=by
 have:=World.rowIs.set h i (.int .u32 v);unfold zAS;rw [List.length_set];refine this.congr (fun j _=>?_);rw [zBT hi]
 split <;> rfl
theorem zAS.drewN {w:World} {g:Nat} {fs:List Int} (h:zAS w g fs) (n:Nat):zAS (w.drewN n) g fs:=World.rowIs.of_block h rfl
theorem xdN {a b:World} (h:Ext a b) (n:Nat):Ext a (b.drewN n):=⟨h.os,h.tape,h.output,h.size,h.block⟩
theorem zAS.row {w:World} {g:Nat} {fs:List Int} (h:zAS w g fs) (hn:fs.length<=9223372036854775807):Row w (.slice (some ⟨g,0,none⟩) fs.length fs.length) fs:=
 ⟨_,fs.length,rfl,Nat.le_refl _,hn,.inr ⟨g,0,rfl,fun i hi=>by rw [Nat.zero_add];exact World.rowIs.cell h hi⟩⟩
theorem zJG (a b:Int):sgn (!(decide (a<0) == decide (b<0))) ((a.natAbs:Int) * (b.natAbs:Int))=a * b:=by
 have h:∀ z:Int,((z.natAbs:Int)=z/\¬ z<0)\/((z.natAbs:Int) = -z/\z<0):=fun z=>by omega
 rcases h a with ⟨ea,ha⟩ | ⟨ea,ha⟩ <;> rcases h b with ⟨eb,hb⟩ | ⟨eb,hb⟩ <;> simp [ea,eb,ha,hb,sgn,Int.neg_mul,Int.mul_neg]
theorem zQ0 {va vb:Value} {a b:Int} (w:World) (ha:ZV w va a) (hb:ZV w vb b) (sa':zAP a=false) (k:Nat) (hk:k<=1000000000) (ka:(a.natAbs:Int)<1000000000 ^ k) (kb:(b.natAbs:Int)<1000000000 ^ k) :
  Calls Tryz.prog 99 #[va,vb] w fun e w'=>∃ v',e=.returned v'/\ZV w' v' (a * b)/\Ext w w':=by
 obtain ⟨a0,a1,pa,na,ca,rfl⟩:=ha.shape;obtain ⟨b0,b1,pb,nb,cb,rfl⟩:=hb.shape;go_enter Tryz.func99,Tryz.ntmps99;go_wp2_with fail;refine (zAH _ (ha.l (xa (xa (x1 _ _) _) _))).mono ?_;rintro e w1 ⟨rfl,e1⟩;have Ba:=((Box3.made w (iQ a0) (.bool a1) (.slice pa na ca) 137).l (xa (x1 _ _) _)).l e1;have Bb:=((Box3.made (w.alloc (.cells #[iQ a0,.bool a1,.slice pa na ca] 137)) (iQ b0) (.bool b1) (.slice pb nb cb) 137).l (x1 _ _)).l e1;have Br:=(Box3.made ((w.alloc (.cells #[iQ a0,.bool a1,.slice pa na ca] 137)).alloc (.cells #[iQ b0,.bool b1,.slice pb nb cb] 137)) (iQ 0) (.bool false) (.slice none 0 0) 137).l e1;simp only [World.size_alloc] at Ba Bb Br;have ha1:=(ha.l (xa (xa (x1 _ _) _) _)).l e1;have hb1:=(hb.l (xa (xa (x1 _ _) _) _)).l e1;have X1:=xt (xa (xa (x1 _ _) _) _) e1;clear e1 ha hb;have Ba':=Ba;obtain ⟨⟨p0,p1,p2⟩,_⟩:=Ba';go_wp2_with fail;clear p0 p1 p2 sa';refine (zAO _ ha1).mono ?_;rintro e w2 ⟨x,rfl,hx2,e2⟩;obtain ⟨⟨q0,q1,q2⟩,_⟩:=Bb.l e2;go_wp2_with fail;refine (zAO _ (hb1.l e2)).mono ?_;rintro e w3 ⟨y,rfl,hy3,e3⟩;obtain ⟨xs,⟨px,cx,rfl,cx1,cx2,cx3⟩,lx,tx,vx⟩:=hx2.l e3;obtain ⟨ys,⟨py,cy,rfl,cy1,cy2,cy3⟩,ly,ty,vy⟩:=hy3;have nx:xs.length<=k:=zE0 lx tx (by rw [vx];exact ka);have ny:ys.length<=k:=zE0 ly ty (by rw [vy];exact kb);have Ba3:=(Ba.l e2).l e3;have Bb3:=(Bb.l e2).l e3;have Br3:=(Br.l e2).l e3;have ha3:=(ha1.l e2).l e3;have hb3:=(hb1.l e2).l e3;have X3:=xt (xt X1 e2) e3;have HV:Hid (lv xs=(a.natAbs:Int)/\lv ys=(b.natAbs:Int)):=⟨vx,vy⟩;clear hx2 vx vy ha1 hb1 e2 e3 Ba Bb Br X1 q0 q1 q2 ka kb;have hmk:=run_make_row' (P:=Tryz.prog) 135 150 (.int .u32 0) 4 Tryz.underlying135 zEH rfl .i64 .i64 (xs.length+ys.length+1) (by omega) (by omega);have ec:((xs.length+ys.length+1:Nat):Int)=(xs.length:Int)+(ys.length:Int)+1:=by omega
 rw [ec] at hmk;clear ec;go_wp2_with fail;go_loopw [53] (fun i wr=>∃ (n:Nat) (fs:List Int),n<=xs.length/\i=.int .i64 n/\zAS wr w3.heap.size fs/\fs.length=xs.length+ys.length+1/\Lim fs/\(∀ j,n+ys.length<=j->fs.getD j 0=0)/\lv fs=lv (xs.take n) * lv ys/\Ext w3 wr) (fun i _=>xs.length - (intOf i).toNat)
 case atStart=>exact ⟨0,List.replicate (xs.length+ys.length+1) 0,Nat.zero_le _,rfl,zAS.zeros _ _,by simp,Lim.zeros _,fun j _=>zBB _ j,by simp [zB3,lv],x1 _ _⟩
 case round =>
  obtain ⟨n,fs,hn,rfl,ho,hfl,hlf,hz,hv,X4⟩:=hrel;by_cases hlt:n<xs.length
  ·obtain ⟨bx,ox,rfl,cx4⟩:∃ b o,px=some ⟨b,o,none⟩/\C32 w3 b o xs:=by
    rcases cx3 with ⟨_,h⟩ | h
    ·omega
    ·exact h
   have hst:=zEE.start (xs:=xs) (i:=n) hfl hlf hz hv;have HS:Hid _:=hst;clear hst hz hv hfl hlf;go_wp2_with fail;go_loopw [11,58] (fun c j wq=>∃ (m:Nat) (gs:List Int) (cc:Int),m<=ys.length/\j=.int .i64 m/\c=.int .u64 cc/\zAS wq w3.heap.size gs/\zEE xs ys gs n m cc/\Ext w3 wq) (fun _ j _=>ys.length - (intOf j).toNat)
   case atStart=>exact ⟨0,fs,0,Nat.zero_le _,rfl,rfl,ho,HS.out,X4⟩
   case round =>
    obtain ⟨m,gs,cc,hm,rfl,rfl,hq,hM,X5⟩:=hrel;clear ho HS X4;by_cases hmlt:m<ys.length
    ·obtain ⟨by1,oy,rfl,cy4⟩:∃ b o,py=some ⟨b,o,none⟩/\C32 w3 b o ys:=by
      rcases cy3 with ⟨_,h⟩ | h
      ·omega
      ·exact h
     have HM:=hM;obtain ⟨m1,m2,m3,m4,m5,_⟩:=hM;obtain ⟨x,ex⟩:=nm (xs.getD n 0);obtain ⟨y,ey⟩:=nm (ys.getD m 0);obtain ⟨f,ef⟩:=nm (gs.getD (n+m) 0);have kx:=(cx4.l X5) n hlt;have ky:=(cy4.l X5) m hmlt;have kf:=World.rowIs.cell hq (i:=n+m) (by omega);have kz:=World.rowIs.frozen hq (n+m);rw [ex] at kx;rw [ey] at ky;rw [ef] at kf;obtain ⟨x0,x1'⟩:=lx.getD n;obtain ⟨y0,y1⟩:=ly.getD m;obtain ⟨f0,f1⟩:=m2.getD (n+m);rw [ex] at x0 x1';rw [ey] at y0 y1;rw [ef] at f0 f1;obtain ⟨s0,s1,s2⟩:=zFD x0 x1' y0 y1 f0 f1 m4 m5;have HN:Hid (zEE xs ys (gs.set (n+m) ((f+x * y+cc) % 1000000000)) n (m+1) ((f+x * y+cc) / 1000000000)):=HM.step hlt hmlt lx ly ex ey ef;have HQ:Hid (zAS wr w3.heap.size gs/\n+m<gs.length):=⟨hq,by omega⟩;clear HM ex ey ef hq m1 m3 m2 cx3 cy3 cx4 cy4 lx ly tx ty hmk ha3 hb3 Ba3 Bb3 Br3;go_wp2_with fail;go_quiet (fail)
     go_wp2
     go_roundw
     case rel=>exact ⟨m+1,_,_,by omega,by go_num,rfl,(HQ.out.1.drewN _).set _ HQ.out.2 _,HN.out,xset (xdN X5 _) (Nat.le_refl _) _⟩
     case measure=>simp [intOf];omega
    ·obtain rfl:m=ys.length:=(by omega);have hM':=hM;obtain ⟨m1,m2,m3,m4,m5,_⟩:=hM';have kf:=World.rowIs.cell hq (i:=n+ys.length) (by omega);have kz:=World.rowIs.frozen hq (n+ys.length);have HN:=hM.close hlt;have HC:Hid (∃ fs',fs'=gs.set (n+ys.length) cc/\fs'.length=xs.length+ys.length+1/\Lim fs'/\(∀ j,(n+1)+ys.length<=j->fs'.getD j 0=0)/\lv fs'=lv (xs.take (n+1)) * lv ys):=⟨_,rfl,HN⟩;have HQ:Hid (zAS wr w3.heap.size gs/\n+ys.length<gs.length):=⟨hq,by omega⟩;clear HN hM hq m3 m2 cx3 cy3 cx4 lx ly tx ty hmk ha3 hb3 Ba3 Bb3 Br3
     go_wp2
     go_roundw
     case rel =>
      obtain ⟨fs',ef,c1,c2,c3,c4⟩:=HC.out;exact ⟨n+1,fs',by omega,by go_num,by rw [ef];exact HQ.out.1.set _ HQ.out.2 _,c1,c2,c3,c4,xset X5 (Nat.le_refl _) _⟩
     case measure=>simp [intOf];omega
  ·obtain rfl:n=xs.length:=by omega
   have hv':lv fs=(a.natAbs:Int) * (b.natAbs:Int):=by
    rw [hv,List.take_length,HV.out.1,HV.out.2]
   have R4:=ho.row (by omega);rw [hfl] at R4;have HR:Hid (Row wr (.slice (some ⟨w3.heap.size,0,none⟩) (xs.length+ys.length+1) (xs.length+ys.length+1)) fs/\Lim fs):=⟨R4,hlf⟩;have Ba4:=Ba3.l X4;have Bb4:=Bb3.l X4;have Br4:=Br3.l X4;have ha4:=ha3.l X4;have hb4:=hb3.l X4;have X5:=xt X3 X4;have Ba5:=Ba4;have Bb5:=Bb4;obtain ⟨⟨p0,p1,p2⟩,_⟩:=Ba5;obtain ⟨⟨q0,q1,q2⟩,_⟩:=Bb5;have HP:Hid (sgn (!(decide (a<0) == decide (b<0))) (lv fs)=a * b):=by rw [hv'];exact zJG a b
   clear R4 hv hv' hz ho hfl hlf cx3 cy3 lx ly tx ty hmk ha3 hb3 Ba3 Bb3 Br3 HV X3 X4;go_wp2_with fail;go_region_with (first
    | (go_at_call_of 108 (Value.agg #[iQ a0,.bool a1,.slice pa na ca]);refine (zD2 (z:=a) _ ?_).mono ?_;(exact ha4.l (by first | exact xr _ | exact xd (xr _)));rintro e w4 ⟨rfl,e4⟩;obtain ⟨⟨q0',q1',q2'⟩,_⟩:=Bb4.l (xt (xd (xr _)) e4))
    | (go_at_call_of 108 (Value.agg #[iQ b0,.bool b1,.slice pb nb cb]);refine (zD2 (z:=b) _ ?_).mono ?_;(exact hb4.l (xt (xd (xr _)) (by assumption)));rintro e w5 ⟨rfl,e5⟩)
    | (go_at_call 110;refine (zEX _ _ (HR.out.1.l (xt (xt (xd (xr _)) (by assumption)) (by assumption))) HR.out.2).mono ?_;rintro e w6 ⟨v',rfl,hz6,e6⟩;obtain ⟨a0',a1',p',n',cap',rfl⟩:=hz6.shape;have X6:=xt (xt (xt (xd (xr wr)) (by assumption)) (by assumption)) e6;have B6:=Br4.l X6;obtain ⟨⟨r0,r1,r2⟩,s0,s1,s2⟩:=B6))
   all_goals
    go_wp2
    exact bodyPost_ret (v:=.agg #[iQ a0',.bool a1',.slice p' n' cap']) (by simp [results,Tryz.results99,go_sem,r0,r1,r2]) rfl ⟨_,rfl,by rw [<- HP.out];exact hz6.set3 (Br4.l X6) _ _ _,Ext.set3 (xt X5 X6) (by omega) _ _ _⟩
theorem zNA (a b x y:Int) (hx:(a.natAbs:Int)=x) (hy:(b.natAbs:Int)=y) (hp:x=0\/y<=999999999999999999 / x) : -1000000000000000000<a * b/\a * b<1000000000000000000:=by
 have h:x * y<=999999999999999999:=by
  rcases hp with rfl | hp
  ·simp
  ·by_cases h0:x=0
   ·subst h0;simp
   ·have h1:x * y<=x * (999999999999999999 / x):=Int.mul_le_mul_of_nonneg_left hp (by omega);have h2:x * (999999999999999999 / x)<=999999999999999999:=Int.mul_ediv_self_le h0;omega
 have h3:(((a * b).natAbs:Nat):Int)=x * y:=by rw [Int.natAbs_mul,Int.natCast_mul,hx,hy]
 omega
theorem zPY {va vb:Value} {a b:Int} (w:World) (ha:ZV w va a) (hb:ZV w vb b) (sa':zAP a=true) (sb':zAP b=true) (hp:(a.natAbs:Int)=0\/(b.natAbs:Int)<=999999999999999999 / (a.natAbs:Int)) :
  Calls Tryz.prog 99 #[va,vb] w fun e w'=>∃ v',e=.returned v'/\ZV w' v' (a * b)/\Ext w w':=by
 obtain ⟨s1,s2,rfl⟩:=ha.small_of sa';obtain ⟨t1,t2,rfl⟩:=hb.small_of sb';obtain ⟨x,hx⟩:=nm ((a.natAbs:Int));obtain ⟨y,hy⟩:=nm ((b.natAbs:Int));have HX:Hid _:=hx;have HY:Hid _:=hy;rw [hx,hy] at hp;obtain ⟨m1,m2⟩:=zNA a b x y hx hy hp;have x0:0<=x:=by omega
 have x1':x<1000000000000000000:=by omega
 have y0:0<=y:=by omega
 have y1':y<1000000000000000000:=by omega
 clear hx hy;go_enter Tryz.func99,Tryz.ntmps99;go_wp2_with fail;refine (zAH _ (ha.l (xa (xa (x1 _ _) _) _))).mono ?_;rintro e w1 ⟨rfl,e1⟩;have Ba:=((Box3.made w (iQ a) (.bool false) (.slice none 0 0) 137).l (xa (x1 _ _) _)).l e1;have Bb:=((Box3.made (w.alloc (.cells #[iQ a,.bool false,.slice none 0 0] 137)) (iQ b) (.bool false) (.slice none 0 0) 137).l (x1 _ _)).l e1;have Br:=(Box3.made ((w.alloc (.cells #[iQ a,.bool false,.slice none 0 0] 137)).alloc (.cells #[iQ b,.bool false,.slice none 0 0] 137)) (iQ 0) (.bool false) (.slice none 0 0) 137).l e1;simp only [World.size_alloc] at Ba Bb Br;have ha1:=(ha.l (xa (xa (x1 _ _) _) _)).l e1;have hb1:=(hb.l (xa (xa (x1 _ _) _) _)).l e1;have X1:=xt (xa (xa (x1 _ _) _) _) e1;clear e1 ha hb;have Bb':=Bb;obtain ⟨⟨p0,p1,p2⟩,_⟩:=Bb';go_wp2_with fail;clear p0 p1 p2;refine (zAH _ hb1).mono ?_;rintro e w1b ⟨rfl,e1b⟩;replace Ba:=Ba.l e1b;replace Bb:=Bb.l e1b;replace Br:=Br.l e1b;replace ha1:=ha1.l e1b;replace hb1:=hb1.l e1b;replace X1:=xt X1 e1b;clear e1b;have Ba':=Ba;have Bb':=Bb;obtain ⟨⟨p0,p1,p2⟩,_⟩:=Ba';obtain ⟨⟨q0,q1,q2⟩,_⟩:=Bb';go_wp2_with fail;refine (zFX a x _ s1 s2 HX.out).mono ?_;rintro e w' ⟨rfl,hw⟩;subst hw;go_wp2_with fail;refine (zFX b y _ t1 t2 HY.out).mono ?_;rintro e w' ⟨rfl,hw⟩;subst hw;have Hz:=(ZV.small (w:=w') m1 m2).set3 Br (iQ (a * b)) (.bool false) (.slice none 0 0);have Hx:=Ext.set3 (b:=w.heap.size+1+1) X1 (by omega) (iQ (a * b)) (.bool false) (.slice none 0 0);obtain ⟨⟨r0,r1,r2⟩,f0,f1,f2⟩:=Br;by_cases hx0:x=0
 ·have hx0':(x == 0)=true:=by rw [hx0];rfl
  clear hx0
  go_wp2
  exact bodyPost_ret (v:=zS (a * b)) (by simp [results,Tryz.results99,go_sem,r0,r1,r2]) rfl ⟨_,rfl,Hz,Hx⟩
 ·have hx0':(x == 0)=false:=by rw [beq_eq_false_iff_ne];exact hx0
  have hx2:0<x:=by omega
  have hp':y<=999999999999999999 / x:=hp.resolve_left hx0;clear hx0 hp
  go_wp2
  exact bodyPost_ret (v:=zS (a * b)) (by simp [results,Tryz.results99,go_sem,r0,r1,r2]) rfl ⟨_,rfl,Hz,Hx⟩
end Go.Proofs.YteliaeejooekbaaGreatDoor
