/-
  Several texts in one: Fr, As0.
-/
import Derived.Test.YtogecaajnjcenaaGreatDoorMg22
import Derived.Test.YtogecaajnjcenaaGreatDoorMg23
import Derived.Test.YtogecaajnjcenaaGreatDoorMg1
import Derived.Deep.AppendSrc
import Derived.Deep.Upon
import Derived.OwnWalk
import Derived.Laws.OwnMore
namespace Go.Proofs.YtogecaajnjcenaaGreatDoor
open Go.RowKit
set_option maxRecDepth 8000 in
set_option maxHeartbeats 4000000 in
theorem goodNI0 (t:List UInt8) (neg:Bool) (d:Int) (x:Int) (r:Int) (c:Int) (rf:Bool) (cf:Bool) (r2:Int) (c2:Int) (rf2:Bool) (cf2:Bool) (m:Int) (w:World) (hl:t.length≤1048576) (d1 : -9223372036854775808≤d) (d2:d≤9223372036854775807) (hT:Tens w) (hE:ErrTab w) (hO:OpTab w) (LW:LibW w) (IT:ItoaC w) :
  Calls Tryz.prog 57 #[ndV 0 t neg d x r c rf cf r2 c2 rf2 cf2 m] w fun e w'=>e=.returned (.bool (goodN 0 t neg d x r c rf cf r2 c2 rf2 cf2 m))∧Ext w w':=by
 obtain ⟨Q,hQ⟩:∃ Q,goodN 0 t neg d x r c rf cf r2 c2 rf2 cf2 m=Q:=⟨_,rfl⟩;have HQ:Hid _:=hQ;rw [hQ];clear hQ;obtain ⟨wa,ha,X,VN,-⟩:=boxed w [.int .i64 0,sV t,.bool neg,.int .i64 d,.int .i64 x,.int .i64 r,.int .i64 c,.bool rf,.bool cf,.int .i64 r2,.int .i64 c2,.bool rf2,.bool cf2,.int .i64 m] 43;have TA:=hT.later X;have EA:=hE.later X;have OA:=hO.later X;have LA:=LW.later X;have hU:True:=by have _:=IT;have _:=hl;have _:=d1;have _:=d2;have _:=TA;have _:=EA;have _:=OA;have _:=LA;trivial
 clear hT hE hO LW hU;by_cases he:t=[]∧neg=false∧d=0∧x=0∧r=0∧c=0∧rf=false∧cf=false∧r2=0∧c2=0∧rf2=false∧cf2=false∧m=0
 ·obtain ⟨rfl,rfl,rfl,rfl,rfl,rfl,rfl,rfl,rfl,rfl,rfl,rfl,rfl⟩:=he;have HB:Hid (false=Q):=by show _=_;rw [← HQ.out];simp [goodN]
  go_enter Tryz.func57,Tryz.ntmps57;have CT:=fun W=>toldI 0 [] false 0 0 0 0 false false 0 0 false false 0 W;rw [show toldL 0 [] false 0 0 0 0 false false 0 0 false false 0=[.int .i64 0,sV [],.bool false,.int .i64 0,.int .i64 0,.int .i64 0,.int .i64 0,.bool false,.bool false,.int .i64 0,.int .i64 0,.bool false,.bool false,.int .i64 0] by simp [toldL]] at CT;obtain ⟨a0,a1,a2,a3,a4,a5,a6,a7,a8,a9,a10,a11,a12,a13⟩:=VN.e14;go_wp2_with fail;refine wp_region_quiet_ext rfl (by kernel_rfl) ?_
  repeat (go_big_quiet_step (first | (go_at_call 72;exact quiet_ext (CT _))))
  refine quiet_end fun w1 Y=>?_;obtain ⟨b0,b1,b2,b3,b4,b5,b6,b7,b8,b9,b10,b11,b12,b13⟩:=(VN.later Y).c14;clear CT a0 a1 a2 a3 a4 a5 a6 a7 a8 a9 a10 a11 a12 a13;go_wp2_with fail;go_ret;exact ⟨ret_bool HB.out,xt X Y⟩
 ·have HB:Hid (false=Q):=by show _=_;rw [← HQ.out];simp [goodN]
  go_enter Tryz.func57,Tryz.ntmps57;have CT:=fun W=>toldI 0 t neg d x r c rf cf r2 c2 rf2 cf2 m W;rw [show toldL 0 t neg d x r c rf cf r2 c2 rf2 cf2 m=[.int .i64 0,sV [],.bool false,.int .i64 0,.int .i64 0,.int .i64 0,.int .i64 0,.bool false,.bool false,.int .i64 0,.int .i64 0,.bool false,.bool false,.int .i64 0] by simp [toldL]] at CT;obtain ⟨a0,a1,a2,a3,a4,a5,a6,a7,a8,a9,a10,a11,a12,a13⟩:=VN.e14;have hne:=fun W=>node_neq 0 t neg d x r c rf cf r2 c2 rf2 cf2 m 0 [] false 0 0 0 0 false false 0 0 false false 0 W;rw [decide_eq_false (by simpa using he)] at hne;go_wp2_with fail;refine wp_region_quiet_ext rfl (by kernel_rfl) ?_
  repeat (go_big_quiet_step (first | (go_at_call 72;exact quiet_ext (CT _))))
  refine quiet_end fun w1 Y=>?_;obtain ⟨b0,b1,b2,b3,b4,b5,b6,b7,b8,b9,b10,b11,b12,b13⟩:=(VN.later Y).c14;clear CT a0 a1 a2 a3 a4 a5 a6 a7 a8 a9 a10 a11 a12 a13 hne;go_wp2_with fail;go_ret;exact ⟨ret_bool HB.out,xt X Y⟩
set_option maxRecDepth 8000 in
set_option maxHeartbeats 4000000 in
theorem goodNIx (k:Int) (t:List UInt8) (neg:Bool) (d:Int) (x:Int) (r:Int) (c:Int) (rf:Bool) (cf:Bool) (r2:Int) (c2:Int) (rf2:Bool) (cf2:Bool) (m:Int) (w:World) (h0:k ≠ 0) (h1:k ≠ 1) (h2:k ≠ 2) (h3:k ≠ 3) (h4:k ≠ 4) (h7:k ≠ 7) (h5:k ≠ 5) (h6:k ≠ 6) (h13:k ≠ 13) (h8:k ≠ 8) (h9:k ≠ 9) (h10:k ≠ 10) (h11:k ≠ 11) (h12:k ≠ 12) :
  Calls Tryz.prog 57 #[ndV k t neg d x r c rf cf r2 c2 rf2 cf2 m] w fun e w'=>e=.returned (.bool false)∧Ext w w':=by
 obtain ⟨wa,ha,X,VN,-⟩:=boxed w [.int .i64 k,sV t,.bool neg,.int .i64 d,.int .i64 x,.int .i64 r,.int .i64 c,.bool rf,.bool cf,.int .i64 r2,.int .i64 c2,.bool rf2,.bool cf2,.int .i64 m] 43;have CT:=fun W=>toldI k t neg d x r c rf cf r2 c2 rf2 cf2 m W;rw [show toldL k t neg d x r c rf cf r2 c2 rf2 cf2 m=[.int .i64 0,sV [],.bool false,.int .i64 0,.int .i64 0,.int .i64 0,.int .i64 0,.bool false,.bool false,.int .i64 0,.int .i64 0,.bool false,.bool false,.int .i64 0] by simp [toldL,h1,h2,h3,h4,h7,h5,h6,h13,h8,h9,h10,h11,h12]] at CT;obtain ⟨a0,a1,a2,a3,a4,a5,a6,a7,a8,a9,a10,a11,a12,a13⟩:=VN.e14;have hne:=fun W=>node_neq k t neg d x r c rf cf r2 c2 rf2 cf2 m 0 [] false 0 0 0 0 false false 0 0 false false 0 W;rw [decide_eq_false (fun h=>h0 h.1)] at hne;clear h1 h2 h3 h4 h7 h5 h6 h13 h8 h9 h10 h11 h12;go_enter Tryz.func57,Tryz.ntmps57;go_wp2_with fail;refine wp_region_quiet_ext rfl (by kernel_rfl) ?_
 repeat (go_big_quiet_step (first | (go_at_call 72;exact quiet_ext (CT _))))
 refine quiet_end fun w1 Y=>?_;obtain ⟨b0,b1,b2,b3,b4,b5,b6,b7,b8,b9,b10,b11,b12,b13⟩:=(VN.later Y).c14;clear CT hne a0 a1 a2 a3 a4 a5 a6 a7 a8 a9 a10 a11 a12 a13;go_wp2_with fail;go_ret;exact ⟨rfl,xt X Y⟩
theorem goodNI (k:Int) (t:List UInt8) (neg:Bool) (d:Int) (x:Int) (r:Int) (c:Int) (rf:Bool) (cf:Bool) (r2:Int) (c2:Int) (rf2:Bool) (cf2:Bool) (m:Int) (w:World) (hl:t.length≤1048576) (d1 : -9223372036854775808≤d) (d2:d≤9223372036854775807) (hT:Tens w) (hE:ErrTab w) (hO:OpTab w) (LW:LibW w) (IT:ItoaC w) :
  Calls Tryz.prog 57 #[ndV k t neg d x r c rf cf r2 c2 rf2 cf2 m] w fun e w'=>e=.returned (.bool (goodN k t neg d x r c rf cf r2 c2 rf2 cf2 m))∧Ext w w':=by
 by_cases h0:k=0
 ·subst h0;exact goodNI0 t neg d x r c rf cf r2 c2 rf2 cf2 m w hl d1 d2 hT hE hO LW IT
 by_cases h1:k=1
 ·subst h1;exact goodNI1 t neg d x r c rf cf r2 c2 rf2 cf2 m w hl d1 d2 hT hE hO LW IT
 by_cases h2:k=2
 ·subst h2;exact goodNI2 t neg d x r c rf cf r2 c2 rf2 cf2 m w hl d1 d2 hT hE hO LW IT
 by_cases h3:k=3
 ·subst h3;exact goodNI3 t neg d x r c rf cf r2 c2 rf2 cf2 m w hl d1 d2 hT hE hO LW IT
 by_cases h4:k=4
 ·subst h4;exact goodNI4 t neg d x r c rf cf r2 c2 rf2 cf2 m w hl d1 d2 hT hE hO LW IT
 by_cases h7:k=7
 ·subst h7;exact goodNI7 t neg d x r c rf cf r2 c2 rf2 cf2 m w hl d1 d2 hT hE hO LW IT
 by_cases h5:k=5
 ·subst h5;exact goodNI5 t neg d x r c rf cf r2 c2 rf2 cf2 m w hl d1 d2 hT hE hO LW IT
 by_cases h6:k=6
 ·subst h6;exact goodNI6 t neg d x r c rf cf r2 c2 rf2 cf2 m w hl d1 d2 hT hE hO LW IT
 by_cases h13:k=13
 ·subst h13;exact goodNI13 t neg d x r c rf cf r2 c2 rf2 cf2 m w hl d1 d2 hT hE hO LW IT
 by_cases h8:k=8
 ·subst h8;exact goodNI8 t neg d x r c rf cf r2 c2 rf2 cf2 m w hl d1 d2 hT hE hO LW IT
 by_cases h9:k=9
 ·subst h9;exact goodNI9 t neg d x r c rf cf r2 c2 rf2 cf2 m w hl d1 d2 hT hE hO LW IT
 by_cases h10:k=10
 ·subst h10;exact goodNI10 t neg d x r c rf cf r2 c2 rf2 cf2 m w hl d1 d2 hT hE hO LW IT
 by_cases h11:k=11
 ·subst h11;exact goodNI11 t neg d x r c rf cf r2 c2 rf2 cf2 m w hl d1 d2 hT hE hO LW IT
 by_cases h12:k=12
 ·subst h12;exact goodNI12 t neg d x r c rf cf r2 c2 rf2 cf2 m w hl d1 d2 hT hE hO LW IT
 rw [show goodN k t neg d x r c rf cf r2 c2 rf2 cf2 m=false by simp [goodN,h1,h2,h3,h4,h7,h5,h6,h13,h8,h9,h10,h11,h12]];exact goodNIx k t neg d x r c rf cf r2 c2 rf2 cf2 m w h0 h1 h2 h3 h4 h7 h5 h6 h13 h8 h9 h10 h11 h12
theorem app_srcG {P:Program} (w:World) (base:Nat) (t tx ty e:TypeId) (i:TypeInfo) (z:Value) (ht:P.underlying t=some (.slice e)) (hi:P.info? e=some i) (hz:i.zero=some z)
  (sz:Nat) (hsize:i.size=sz) (hby:i.bytes≤64) (hzs:z.cells.size=sz) (v:Value) (n:Nat) (xs:List Value) (hown:w.ownsRow base e sz v n xs) (x:Value) (m:Nat) (news:List Value) (hs:Src P sz tx x m news w)
  (hnm:n+m≤1000000000) (hbase:base≤w.heap.size) :
  ∃ v' w',(Builtin.append_ #[t,tx] ty #[v,x]).run P w=.ok v' w'∧w'.ownsRow base e sz v' (n+m) (xs++news)∧w.grownBy w' v.ownBlock∧(v'.ownBlock=v.ownBlock∨v'.ownBlock=some w.heap.size):=by
 have hs':Src P i.size tx x m news w:=by rw [hsize];exact hs
 have hml:n+m≤maxLen:=by simp only [maxLen];omega
 have hlen:(xs++news).length=(n+m) * sz:=by rw [List.length_append,hown.1,hs.newsLen,Nat.add_mul]
 have grown:∀ (old:Nat) (row:Option Nat),
   (w.drew.alloc (.cells ((xs++news).toArray++Builtin.zeroCells z.cells (grownCap w (n+m) old e - (n+m))) e)).ownsRow base e sz (.slice (some ⟨w.heap.size,0,none⟩) (n+m) (grownCap w (n+m) old e)) (n+m) (xs++news) ∧
   w.grownBy (w.drew.alloc (.cells ((xs++news).toArray++Builtin.zeroCells z.cells (grownCap w (n+m) old e - (n+m))) e)) row:=by
  intro old row;have hge:=grownCap_ge w (n+m) old e;refine ⟨⟨hlen,.inr ⟨w.heap.size,_,_,rfl,hbase,heap_alloc_new w.drew _,hge,grownCap_le_maxLen w (n+m) old e hml,?_,?_⟩⟩,⟨rfl,rfl,rfl,by simp,fun k hk _=>heap_alloc_old w.drew _ (h:=hk)⟩⟩
  ·rw [Array.size_append,List.size_toArray,size_zeroCells,hzs,hlen,← Nat.add_mul]
   congr 1
   omega
  ·rw [Array.toList_append,← hlen];exact List.take_left
 rcases hown.2 with ⟨rfl,rfl⟩ | ⟨g,cap,cur,rfl,hbg,hg,hnc,hcm,hcs,htake⟩
 ·have hx:xs=[]:=List.eq_nil_of_length_eq_zero (by have:=hown.1;rw [Nat.zero_mul] at this;exact this);subst hx;by_cases hm:m=0
  ·subst hm;have hn:news=[]:=List.eq_nil_of_length_eq_zero (by have:=hs.newsLen;rw [Nat.zero_mul] at this;exact this);subst hn;exact ⟨_,_,run_append_nothing w t tx ty e i ht hi none 0 0 (Nat.le_refl _) x hs',World.ownsRow_nil w base e sz,⟨rfl,rfl,rfl,Nat.le_refl _,fun _ _ _=>rfl⟩,Or.inl rfl⟩
  ·have hr:=run_append_grow_src (P:=P) w t tx ty e i z ht hi hz none 0 0 [] (run_firstCells_none w.drew i.size 0 0 0) x m news hs' (by omega) (by omega) (growslice_fits (by omega) (by have:=Nat.mul_le_mul hnm hby;omega));have hgr:=grown 0 (Value.ownBlock (.slice none 0 0));exact ⟨_,_,hr,hgr.1,hgr.2,Or.inr rfl⟩
 ·by_cases hroom:n+m≤cap
  ·have hfit:n * i.size+news.length≤cur.size:=by rw [hs'.newsLen,hcs,hsize,← Nat.add_mul];exact Nat.mul_le_mul_right _ hroom
   have hst:=run_storeCells_at P g (n * i.size) e news 0 cur w hg (by simpa using hfit) hs.one;simp only [Nat.add_zero] at hst;have hr:(Builtin.append_ #[t,tx] ty #[.slice (some ⟨g,0,none⟩) n cap,x]).run P w=.ok (.slice (some ⟨g,0,none⟩) (n+m) cap) (w.setRow g (cur.toList.take (n * i.size)++news++cur.toList.drop (n * i.size+news.length)).toArray):=by
    rcases hs'.kind with ⟨e',hk⟩ | hk <;> simp [Builtin.append_,run_underlying ht,run_underlying hk,sizeOf,typeInfo,hi,hs'.len,hroom,hs'.cells,Addr.add_lit,hst]
   refine ⟨_,_,hr,⟨hlen,.inr ⟨g,cap,_,rfl,hbg,setRow_heap w g cur _ e _ hg,hroom,hcm,?_,?_⟩⟩,⟨rfl,rfl,rfl,by simp,fun k _ hk=>setRow_other w g k _ (fun e=>hk (by simp [Value.ownBlock,e]))⟩,Or.inl rfl⟩
   ·simp only [List.size_toArray,List.length_append,List.length_take,List.length_drop,Array.length_toList];omega
   ·rw [hsize,htake,← hlen];exact List.take_left
  ·have holds:∀ j u,xs[j]?=some u→w.cell? ((⟨g,0,none⟩:Addr).add j)=some u:=hown.cells (g:=g) rfl;have hr:=run_append_grow_src (P:=P) w t tx ty e i z ht hi hz (some ⟨g,0,none⟩) n cap xs (run_firstCells_some (P:=P) w.drew i.size n ⟨g,0,none⟩ n cap xs (by rw [hsize];exact hown.1) (by simpa using holds)) x m news hs' (by omega) (by omega) (growslice_fits (by omega) (by have:=Nat.mul_le_mul hnm hby;omega));have hgr:=grown cap (Value.ownBlock (.slice (some ⟨g,0,none⟩) n cap));exact ⟨_,_,hr,hgr.1,hgr.2,Or.inr rfl⟩
end Go.Proofs.YtogecaajnjcenaaGreatDoor

