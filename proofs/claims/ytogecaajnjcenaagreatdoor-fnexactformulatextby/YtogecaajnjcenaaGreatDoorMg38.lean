/-
  Several texts in one: Rc, Qso, Rq.
-/
import Derived.Test.YtogecaajnjcenaaGreatDoorMg37
import Derived.Test.YtogecaajnjcenaaGreatDoorMg33
import Derived.Test.YtogecaajnjcenaaGreatDoorMg12
import Derived.Lib.ReplaceLaws
namespace Go.Proofs.YtogecaajnjcenaaGreatDoor
open Go.RowKit
theorem notGood {r c:Int} (h:¬ GoodR r c):goodRB r c=false:=by
 rw [← Bool.not_eq_true,goodRB_iff];exact h
set_option maxRecDepth 8000 in
set_option maxHeartbeats 1000000 in
theorem byTextI (r c:Int) (rf cf:Bool) (row col:Int) (w:World) {w0:World} (IT:ItoaC w0) (X0:Ext w0 w) :
  Calls Tryz.prog 207 #[refV r c rf cf,.int .i64 row,.int .i64 col] w fun e w'=>e=.returned (.string (bs (byT r c rf cf row col)))∧Ext w w':=by
 have X:=x1 w (.cells #[.int .i64 r,.int .i64 c,.bool rf,.bool cf] 41);go_enter Tryz.func207,Tryz.ntmps207;go_wp2_with fail;refine (seenFromI _ _ _ _ _ _ _).mono ?_;rintro e w1 ⟨rfl,e1⟩;have P:=Vec.made8 w1 (.int .i64 r) (.int .i64 c) (.bool rf) (.bool cf) (.int .i64 row) (.int .i64 col) (.bool false) (.bool false) 246;have X2:=xa (xt X e1) (.cells #[.int .i64 r,.int .i64 c,.bool rf,.bool cf,.int .i64 row,.int .i64 col,.bool false,.bool false] 246);clear X e1;go_wp2_with fail;refine (seenGoodI _ _ _ _ _ _ _).mono ?_;rintro e w3 ⟨rfl,e3⟩;have X3:=xt X2 e3;obtain ⟨⟨⟨a0,a1,a2,a3⟩,a4,a5,a6,a7⟩,_⟩:=(P.later e3).box8;clear P X2 e3;by_cases hg:GoodR r c∧GoodR row col
 ·have HR:Hid (byT r c rf cf row col=byL r c rf cf row col):=by show _=_;unfold byT;rw [if_pos hg]
  rw [(goodRB_iff r c).2 hg.1,(goodRB_iff row col).2 hg.2];have TX:=seenTextI r c rf cf row col w3 IT (xt X0 X3) hg.1 hg.2;clear hg;go_wp2_with fail;refine TX.mono ?_;rintro e w4 ⟨rfl,e4⟩;go_wp2_with fail;go_ret;exact ⟨ret_str (by rw [HR.out]),xt X3 e4⟩
 ·have HR:Hid (byT r c rf cf row col=[]):=by show _=_;unfold byT;rw [if_neg hg]
  have hb:(goodRB r c && goodRB row col)=false:=by
   rw [Bool.and_eq_false_iff];by_cases h1:GoodR r c
   ·exact .inr (notGood (fun h2=>hg ⟨h1,h2⟩))
   ·exact .inl (notGood h1)
  rw [hb];clear hg hb;go_wp2_with fail;go_ret;exact ⟨ret_str (by rw [HR.out];rfl),X3⟩
set_option maxRecDepth 8000 in
set_option maxHeartbeats 1000000 in
theorem placeS (row col:Int) (w:World) :
  Calls Tryz.prog 17 #[.int .i64 row,.int .i64 col] w fun e w'=>e=.returned (.bool (goodRB row col))∧Ext w w':=by
 go_enter Tryz.func17,Tryz.ntmps17;go_wp2_with fail;refine (goodRS _ _ _ _ _).mono ?_;rintro e w1 ⟨rfl,e1⟩;go_wp2_with fail;go_ret;exact ⟨rfl,e1⟩
set_option maxRecDepth 8000 in
set_option maxHeartbeats 1000000 in
theorem byTextS (r c:Int) (rf cf:Bool) (row col:Int) (w:World) :
  Calls Tryz.prog 53 #[refV r c rf cf,.int .i64 row,.int .i64 col] w fun e w'=>e=.returned (.string (bs (byT r c rf cf row col)))∧Ext w w':=by
 have B:=Box4.made w (.int .i64 r) (.int .i64 c) (.bool rf) (.bool cf) 41;have X:=x1 w (.cells #[.int .i64 r,.int .i64 c,.bool rf,.bool cf] 41);have G:=fun w=>goodRS r c rf cf w;have PL:=fun w=>placeS row col w;by_cases hg:GoodR r c
 ·rw [(goodRB_iff r c).2 hg] at G;by_cases hh:GoodR row col
  ·rw [(goodRB_iff row col).2 hh] at PL;obtain ⟨⟨r0,r1⟩,c0,c1⟩:=hg;obtain ⟨⟨t0,t1⟩,d0,d1⟩:=hh;have F1:∀ w',Calls Tryz.prog 69 #[.string ⟨#[82]⟩,.int .i64 r,.int .i64 row,.bool rf] w' fun e w''=>e=.returned (.string (bs ([82]++farL r row rf)))∧Ext w' w'':=fun w'=>byS 82 r row rf w' r0 r1 t0 t1;have F2:∀ w',Calls Tryz.prog 69 #[.string ⟨#[67]⟩,.int .i64 c,.int .i64 col,.bool cf] w' fun e w''=>e=.returned (.string (bs ([67]++farL c col cf)))∧Ext w' w'':=fun w'=>byS 67 c col cf w' c0 (by omega) d0 (by omega);obtain ⟨k1,z1⟩:∃ k,(bs ([82]++farL r row rf)).size=k:=⟨_,rfl⟩;obtain ⟨k2,z2⟩:∃ k,(bs ([67]++farL c col cf)).size=k:=⟨_,rfl⟩;have l1:k1≤8:=by rw [← z1,bs_size];have:=farL_len r0 r1 t0 t1 rf;simp;omega
   have l2:k2≤8:=by rw [← z2,bs_size];have:=farL_len c0 (by omega) d0 (by omega) cf;simp;omega
   have HR:Hid (bs (byT r c rf cf row col)=bs ([82]++farL r row rf)++bs ([67]++farL c col cf)):=by
    show _=_;unfold byT;rw [if_pos ⟨⟨⟨r0,r1⟩,c0,c1⟩,⟨t0,t1⟩,d0,d1⟩,bs_app];simp [byL]
   obtain ⟨s1,e1'⟩:∃ s,bs ([82]++farL r row rf)=s:=⟨_,rfl⟩;obtain ⟨s2,e2'⟩:∃ s,bs ([67]++farL c col cf)=s:=⟨_,rfl⟩;rw [e1'] at F1 z1 HR;rw [e2'] at F2 z2 HR;have q1:(9223372036854775807<k1+k2)=False:=eq_false (by omega);clear r0 r1 c0 c1 t0 t1 d0 d1 e1' e2';go_enter Tryz.func53,Tryz.ntmps53;go_wp2_with fail;refine (G _).mono ?_;rintro e w1 ⟨rfl,e1⟩;go_wp2_with fail;refine (PL _).mono ?_;rintro e w2 ⟨rfl,e2⟩;have B2:=(B.later e1).later e2;have X2:=xt (xt X e1) e2;have Y:=xr w2;obtain ⟨⟨a0,a1,a2,a3⟩,_⟩:=B2.later Y;clear B X e1 e2 G PL;go_wp2_with fail;go_region_held3 (fun w'=>w'.cell? ⟨w.heap.size,0,none⟩=some (.int .i64 r)∧w'.cell? ⟨w.heap.size,1,none⟩=some (.int .i64 c)∧w'.cell? ⟨w.heap.size,2,none⟩=some (.bool rf)∧w'.cell? ⟨w.heap.size,3,none⟩=some (.bool cf)) (go_keep) (first
    | (go_at_call_of 69 (Value.int IntKind.i64 r);refine (F1 _).mono ?_;rintro e w3 ⟨rfl,e3⟩;have Y:Ext w2 w3:=(by first | exact xt Y e3 | exact xt (xd Y) e3);obtain ⟨⟨a0,a1,a2,a3⟩,_⟩:=B2.later Y)
    | (go_at_call_of 69 (Value.int IntKind.i64 c);refine (F2 _).mono ?_;rintro e w3 ⟨rfl,e3⟩;have Y:Ext w2 w3:=(by first | exact xt Y e3 | exact xt (xd Y) e3);obtain ⟨⟨a0,a1,a2,a3⟩,_⟩:=B2.later Y))
   all_goals go_wp2_with fail
   all_goals go_ret
   all_goals exact ⟨ret_str HR.out.symm,xt X2 Y⟩
  ·rw [notGood hh] at PL;have HR:Hid (byT r c rf cf row col=[]):=by show _=_;unfold byT;rw [if_neg (fun q=>hh q.2)]
   clear hg hh;go_enter Tryz.func53,Tryz.ntmps53;go_wp2_with fail;refine (G _).mono ?_;rintro e w1 ⟨rfl,e1⟩;go_wp2_with fail;refine (PL _).mono ?_;rintro e w2 ⟨rfl,e2⟩;go_wp2_with fail;go_ret;exact ⟨ret_str (by rw [HR.out];rfl),xt (xt X e1) e2⟩
 ·rw [notGood hg] at G;have HR:Hid (byT r c rf cf row col=[]):=by show _=_;unfold byT;rw [if_neg (fun q=>hg q.1)]
  clear hg;go_enter Tryz.func53,Tryz.ntmps53;go_wp2_with fail;refine (G _).mono ?_;rintro e w1 ⟨rfl,e1⟩;go_wp2_with fail;go_ret;exact ⟨ret_str (by rw [HR.out];rfl),xt X e1⟩
set_option maxRecDepth 8000 in
set_option maxHeartbeats 4000000 in
theorem quotedS (f:List UInt8) (w:World) (hl:f.length≤1048576) :
  Calls Tryz.prog 35 #[sV f] w fun e w'=>e=.returned (sV (quoT f))∧Ext w w':=by
 obtain ⟨s,hs⟩:∃ s:ByteArray,(⟨f.toArray⟩:ByteArray)=s:=⟨_,rfl⟩;have hsl:s.data.toList=f:=by rw [← hs]
 have hsz:=size_ofL' hsl;show Calls Tryz.prog 35 #[.string ⟨f.toArray⟩] w _;rw [hs];clear hs;obtain ⟨n,hn⟩:∃ n,f.length=n:=⟨_,rfl⟩;have HN:Hid (f.length=n):=hn;have HS:Hid (s.data.toList=f):=hsl;rw [hn] at hl hsz;clear hn hsl;have V0:=vec_made w [.int .u8 34] 5;have X0:=x1 w (.cells #[.int .u8 34] 5);change Vec (w.alloc (.cells #[.int .u8 34] 5)) _ _ at V0;have O0:Hid (OwnY (w.alloc (.cells #[.int .u8 34] 5)) w.heap.size (.slice (some ⟨w.heap.size,0,none⟩) 1 1) (34 :: quoF (f.take 0))∧Ext w (w.alloc (.cells #[.int .u8 34] 5))):=by
  refine ⟨⟨rfl,.inr ⟨w.heap.size,1,#[.int .u8 34],rfl,Nat.le_refl _,heap_alloc_new w _,Nat.le_refl _,by simp [maxLen],rfl,rfl⟩⟩,X0⟩
 obtain ⟨wa,ha⟩:∃ q,w.alloc (.cells #[.int .u8 34] 5)=q:=⟨_,rfl⟩;rw [ha] at O0;clear V0 X0;go_enter Tryz.func35,Tryz.ntmps35;go_wp2_with fail;go_loopw [3,4] (fun v i wr=>∃ (k m c:Nat) (p:Option Addr),k≤n∧i=.int .i64 k∧v=.slice p m c∧Hid (OwnY wr w.heap.size (.slice p m c) (34 :: quoF (f.take k))∧Ext w wr)) (fun _ i _=>n - (intOf i).toNat)
 case atStart=>exact ⟨0,1,1,_,by omega,rfl,rfl,O0⟩
 case round =>
  clear O0 ha;obtain ⟨k,m,c,p,hk,rfl,rfl,HO⟩:=hrel;obtain ⟨O,X⟩:=HO.out;have hqt:(34 :: quoF (f.take k)).length≤3000000:=by
   have:=quoF_length (f.take k);rw [List.length_take,HN.out] at this;rw [List.length_cons];omega
  by_cases hlt:k<n
  ·have hks:k<s.size:=by omega
   have hb0:=byte_atA HS.out hks;obtain ⟨b,hb⟩:∃ b,f[k]?=some b:=⟨_,List.getElem?_eq_getElem (by rw [HN.out];exact hlt)⟩;have hgd:f.getD k 0=b:=by rw [List.getD,hb];rfl
   rw [hgd] at hb0;have hbn:((s[k]'hks).toNat:Int)=(b.toNat:Int):=by rw [hb0]
   have HQ:Hid (quoF (f.take (k+1))=quoF (f.take k)++(if b=34 then [34,34] else [b])):=quoF_take hb;have i2:(k:Int)<(n:Int):=by omega
   clear hb0 hb hgd;by_cases h34:b=34
   ·subst h34;have n1:(((34:UInt8).toNat:Int))=34:=rfl;rw [n1] at hbn;obtain ⟨p1,m1,c1,w1,hrun1,O1,X1⟩:=put_byte w wr _ _ 34 X O (by omega);obtain ⟨p2,m2,c2,w2,hrun2,O2,X2⟩:=put_byte w w1 _ _ 34 X1 O1 (by rw [List.length_append,List.length_singleton];omega);have HK:Hid (OwnY w2 w.heap.size (.slice p2 m2 c2) (34 :: quoF (f.take (k+1)))∧Ext w w2):=by
     rw [HQ.out,if_pos rfl];refine ⟨?_,X2⟩;have e:(34 :: (quoF (f.take k)++[34,34]):List UInt8)=34 :: quoF (f.take k)++[34]++[34]:=(by simp);rw [e];exact O2
    rw [n1] at hrun1 hrun2;obtain ⟨wa,ha⟩:∃ q,wr.alloc (.cells #[.int .u8 34] 5)=q:=⟨_,rfl⟩;obtain ⟨wb,hb⟩:∃ q,w1.alloc (.cells #[.int .u8 34] 5)=q:=⟨_,rfl⟩;rw [ha] at hrun1;rw [hb] at hrun2;clear HO O X O1 X1 O2 X2 hqt;go_wp2_with (at_builtin;first | refine Lib.wpList_append_run _ rfl _ _ _ _ rfl _ _ rfl rfl _ _ hrun1 ?_ | refine Lib.wpList_append_run _ rfl _ _ _ _ rfl _ _ rfl rfl _ _ hrun2 ?_);go_roundw
    case rel=>exact ⟨k+1,m2,c2,p2,by omega,by go_num,rfl,HK⟩
    case measure=>simp [intOf];omega
   ·obtain ⟨N,hN⟩:∃ N:Int,(b.toNat:Int)=N:=⟨_,rfl⟩;have n1:(N == 34)=false:=by
     have:b.toNat ≠ 34:=fun e=>h34 (UInt8.toNat_inj.1 e);simp;omega
    obtain ⟨p1,m1,c1,w1,hrun1,O1,X1⟩:=put_byte w wr _ _ b X O (by omega);have HK:Hid (OwnY w1 w.heap.size (.slice p1 m1 c1) (34 :: quoF (f.take (k+1)))∧Ext w w1):=by
     rw [HQ.out,if_neg h34];exact ⟨O1,X1⟩
    rw [hN] at hbn hrun1;obtain ⟨wa,ha⟩:∃ q,wr.alloc (.cells #[.int .u8 N] 5)=q:=⟨_,rfl⟩;rw [ha] at hrun1;clear HO O X O1 X1 hqt hN h34;go_wp2_with (at_builtin;refine Lib.wpList_append_run _ rfl _ _ _ _ rfl _ _ rfl rfl _ _ hrun1 ?_);go_wp2_with fail;go_roundw
    case rel=>exact ⟨k+1,m1,c1,p1,by omega,by go_num,rfl,HK⟩
    case measure=>simp [intOf];omega
  ·obtain rfl:k=n:=by omega
   obtain ⟨p1,m1,c1,w1,hrun1,O1,X1⟩:=put_byte w wr _ _ 34 X O (by omega);have HC:=conv_text O1;have n1:(((34:UInt8).toNat:Int))=34:=rfl;rw [n1] at hrun1;obtain ⟨wa,ha⟩:∃ q,wr.alloc (.cells #[.int .u8 34] 5)=q:=⟨_,rfl⟩;rw [ha] at hrun1;have HT:Hid (34 :: quoF (f.take k)++[34]=quoT f):=by
    show _=_;rw [List.take_of_length_le (by rw [HN.out];omega)];rfl
   rw [HT.out] at HC;have HX:Hid (Ext w w1):=X1;clear HO O X O1 X1 hqt;go_wp2_with (at_builtin;refine Lib.wpList_append_run _ rfl _ _ _ _ rfl _ _ rfl rfl _ _ hrun1 ?_);go_wp2_with fail;go_ret;exact ⟨rfl,HX.out⟩
theorem replaceK_pass (b:UInt8) (hb:b ≠ 34) (l:List UInt8):∀ k,Lib.replaceK [34] [34,34] k (b :: l)=b :: Lib.replaceK [34] [34,34] k l
 | 0=>rfl
 | k+1=>by
  have hi:Lib.index (b :: l) [34]=if Lib.index l [34] == -1 then -1 else Lib.index l [34]+1:=by
   rw [Lib.index,if_neg (by simp [List.isPrefixOf];exact fun e=>hb e.symm)]
  have hg:=Lib.index_ge l [34];by_cases h:Lib.index l [34] = -1
  ·rw [Lib.replaceK,Lib.replaceK,hi,h];rfl
  ·obtain ⟨i,hi2⟩:∃ i:Nat,Lib.index l [34]=i:=⟨(Lib.index l [34]).toNat,by omega⟩;have hi3:Lib.index (b :: l) [34]=((i+1:Nat):Int):=by rw [hi,hi2,if_neg (by simp)];omega
   rw [Lib.replaceK_hit _ _ _ _ _ hi2,Lib.replaceK_hit _ _ _ _ _ hi3];simp
theorem replace_quoF (f:List UInt8):Lib.replaceAll f [34] [34,34]=quoF f:=by
 have key:∀ f:List UInt8,Lib.replaceK [34] [34,34] (Lib.count f [34]) f=quoF f:=by
  intro f
  induction f with
  | nil=>rfl
  | cons b l ih =>
   by_cases hb:b=34
   ·subst hb;have hi:Lib.index (34 :: l) [34]=((0:Nat):Int):=(by rw [Lib.index,if_pos (by simp [List.isPrefixOf])];rfl);rw [Lib.count_hit (by simp) hi,Nat.add_comm,Lib.replaceK_hit _ _ _ _ _ hi];have e:((34:UInt8) :: l).drop (0+[(34:UInt8)].length)=l:=rfl;rw [e,ih];rfl
   ·have hi:Lib.index (b :: l) [34]=if Lib.index l [34] == -1 then -1 else Lib.index l [34]+1:=by
     rw [Lib.index,if_neg (by simp [List.isPrefixOf];exact fun e=>hb e.symm)]
    have hc:Lib.count (b :: l) [34]=Lib.count l [34]:=by
     have hg:=Lib.index_ge l [34];by_cases h:Lib.index l [34] = -1
     ·rw [Lib.count_miss h,Lib.count_miss (by rw [hi,h];rfl)]
     ·obtain ⟨i,hi2⟩:∃ i:Nat,Lib.index l [34]=i:=⟨(Lib.index l [34]).toNat,by omega⟩;have hi3:Lib.index (b :: l) [34]=((i+1:Nat):Int):=(by rw [hi,hi2,if_neg (by simp)];omega);rw [Lib.count_hit (by simp) hi2,Lib.count_hit (by simp) hi3];rfl
    rw [hc,replaceK_pass b hb,ih];unfold quoF;rw [List.flatMap_cons,if_neg hb];rfl
 unfold Lib.replaceAll Lib.replace;rw [if_neg (by decide)];unfold Lib.replaceNum;rw [if_pos (.inl (by omega))];exact key f
end Go.Proofs.YtogecaajnjcenaaGreatDoor

