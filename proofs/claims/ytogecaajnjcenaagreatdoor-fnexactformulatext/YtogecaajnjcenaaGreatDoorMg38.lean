/-
  Several texts in one: Rc, Qso, Rq.
-/
import Derived.Test.YtogecaajnjcenaaGreatDoorMg37
import Derived.Test.YtogecaajnjcenaaGreatDoorMg33
import Derived.Test.YtogecaajnjcenaaGreatDoorMg12
import Derived.Lib.ReplaceLaws
namespace Go.Proofs.YtogecaajnjcenaaGreatDoor
open Go.RowKit
set_option maxRecDepth 8000 in
set_option maxHeartbeats 4000000 in
theorem quotedS (f:List UInt8) (w:World) (hl:f.length≤1048576) :
  Calls Tryz.prog 35 #[sV f] w fun e w'=>e=.returned (sV (quoT f))∧Ext w w':=by
 obtain ⟨s,hs⟩:∃ s:ByteArray,(⟨f.toArray⟩:ByteArray)=s:=⟨_,rfl⟩;have hsl:s.data.toList=f:=by rw [← hs]
 have hsz:=size_ofL' hsl;show Calls Tryz.prog 35 #[.string ⟨f.toArray⟩] w _;rw [hs];clear hs;obtain ⟨n,hn⟩:∃ n,f.length=n:=⟨_,rfl⟩;have HN:Hid (f.length=n):=hn;have HS:Hid (s.data.toList=f):=hsl;rw [hn] at hl hsz;clear hn hsl;have V0:=vec_made w [.int .u8 34] 5;have X0:=x1 w (.cells #[.int .u8 34] 5);change Vec (w.alloc (.cells #[.int .u8 34] 5)) _ _ at V0;have O0:Hid (OwnY (w.alloc (.cells #[.int .u8 34] 5)) w.heap.size (.slice (some ⟨w.heap.size,0,none⟩) 1 1) (34 :: quoF (f.take 0))∧Ext w (w.alloc (.cells #[.int .u8 34] 5))):=by
  refine ⟨⟨rfl,.inr ⟨w.heap.size,1,#[.int .u8 34],rfl,Nat.le_refl _,heap_alloc_new w _,Nat.le_refl _,by simp [maxLen],rfl,rfl⟩⟩,X0⟩
 obtain ⟨wa,ha⟩:∃ q,w.alloc (.cells #[.int .u8 34] 5)=q:=⟨_,rfl⟩;rw [ha] at O0;clear V0 X0;go_enter Tryz.func35,Tryz.ntmps35;go_wp2_with fail;go_loopw [3,4] (fun v i wr=>∃ (k m c:Nat) (p:Option Addr),k≤n∧i=.int .i64 k∧v=.slice p m c∧Hid (OwnY wr w.heap.size (.slice p m c) (34 :: quoF (f.take k))∧Ext w wr)) (fun _ i _=>n - (intOf i).toNat)
 case atStart=>exact ⟨0,1,1,_,by omega,rfl,rfl,O0⟩
 case round =>
  clear O0 ha;obtain ⟨k,m,c,p,hk,rfl,rfl,HO⟩:=hrel;obtain ⟨O,X⟩:=HO.out;have hqt:(34 :: quoF (f.take k)).length≤3000000:=by
   have:=quoF_length (f.take k);rw [List.length_take,HN.out] at this;rw [List.length_cons];omega
  by_cases hlt:k<n
  ·have hks:k<s.size:=by omega
   have hb0:=byte_atA HS.out hks;obtain ⟨b,hb⟩:∃ b,f[k]?=some b:=⟨_,List.getElem?_eq_getElem (by rw [HN.out];exact hlt)⟩;have hgd:f.getD k 0=b:=by rw [List.getD,hb];rfl
   rw [hgd] at hb0;have hbn:((s[k]'hks).toNat:Int)=(b.toNat:Int):=by rw [hb0]
   have HQ:Hid (quoF (f.take (k+1))=quoF (f.take k)++(if b=34 then [34,34] else [b])):=quoF_take hb;have i2:(k:Int)<(n:Int):=by omega
   clear hb0 hb hgd;by_cases h34:b=34
   ·subst h34;have n1:(((34:UInt8).toNat:Int))=34:=rfl;rw [n1] at hbn;obtain ⟨p1,m1,c1,w1,hrun1,O1,X1⟩:=put_byte w wr _ _ 34 X O (by omega);obtain ⟨p2,m2,c2,w2,hrun2,O2,X2⟩:=put_byte w w1 _ _ 34 X1 O1 (by rw [List.length_append,List.length_singleton];omega);have HK:Hid (OwnY w2 w.heap.size (.slice p2 m2 c2) (34 :: quoF (f.take (k+1)))∧Ext w w2):=by
     rw [HQ.out,if_pos rfl];refine ⟨?_,X2⟩;have e:(34 :: (quoF (f.take k)++[34,34]):List UInt8)=34 :: quoF (f.take k)++[34]++[34]:=(by simp);rw [e];exact O2
    rw [n1] at hrun1 hrun2;obtain ⟨wa,ha⟩:∃ q,wr.alloc (.cells #[.int .u8 34] 5)=q:=⟨_,rfl⟩;obtain ⟨wb,hb⟩:∃ q,w1.alloc (.cells #[.int .u8 34] 5)=q:=⟨_,rfl⟩;rw [ha] at hrun1;rw [hb] at hrun2;clear HO O X O1 X1 O2 X2 hqt;go_wp2_with (at_builtin;first | refine Lib.wpList_append_run _ rfl _ _ _ _ rfl _ _ rfl rfl _ _ hrun1 ?_ | refine Lib.wpList_append_run _ rfl _ _ _ _ rfl _ _ rfl rfl _ _ hrun2 ?_);go_roundw
    case rel=>exact ⟨k+1,m2,c2,p2,by omega,by go_num,rfl,HK⟩
    case measure=>simp [intOf];omega
   ·obtain ⟨N,hN⟩:∃ N:Int,(b.toNat:Int)=N:=⟨_,rfl⟩;have n1:(N == 34)=false:=by
     have:b.toNat ≠ 34:=fun e=>h34 (UInt8.toNat_inj.1 e);simp;omega
    obtain ⟨p1,m1,c1,w1,hrun1,O1,X1⟩:=put_byte w wr _ _ b X O (by omega);have HK:Hid (OwnY w1 w.heap.size (.slice p1 m1 c1) (34 :: quoF (f.take (k+1)))∧Ext w w1):=by
     rw [HQ.out,if_neg h34];exact ⟨O1,X1⟩
    rw [hN] at hbn hrun1;obtain ⟨wa,ha⟩:∃ q,wr.alloc (.cells #[.int .u8 N] 5)=q:=⟨_,rfl⟩;rw [ha] at hrun1;clear HO O X O1 X1 hqt hN h34;go_wp2_with (at_builtin;refine Lib.wpList_append_run _ rfl _ _ _ _ rfl _ _ rfl rfl _ _ hrun1 ?_);go_wp2_with fail;go_roundw
    case rel=>exact ⟨k+1,m1,c1,p1,by omega,by go_num,rfl,HK⟩
    case measure=>simp [intOf];omega
  ·obtain rfl:k=n:=by omega
   obtain ⟨p1,m1,c1,w1,hrun1,O1,X1⟩:=put_byte w wr _ _ 34 X O (by omega);have HC:=conv_text O1;have n1:(((34:UInt8).toNat:Int))=34:=rfl;rw [n1] at hrun1;obtain ⟨wa,ha⟩:∃ q,wr.alloc (.cells #[.int .u8 34] 5)=q:=⟨_,rfl⟩;rw [ha] at hrun1;have HT:Hid (34 :: quoF (f.take k)++[34]=quoT f):=by
    show _=_;rw [List.take_of_length_le (by rw [HN.out];omega)];rfl
   rw [HT.out] at HC;have HX:Hid (Ext w w1):=X1;clear HO O X O1 X1 hqt;go_wp2_with (at_builtin;refine Lib.wpList_append_run _ rfl _ _ _ _ rfl _ _ rfl rfl _ _ hrun1 ?_);go_wp2_with fail;go_ret;exact ⟨rfl,HX.out⟩
theorem replaceK_pass (b:UInt8) (hb:b ≠ 34) (l:List UInt8):∀ k,Lib.replaceK [34] [34,34] k (b :: l)=b :: Lib.replaceK [34] [34,34] k l
 | 0=>rfl
 | k+1=>by
  have hi:Lib.index (b :: l) [34]=if Lib.index l [34] == -1 then -1 else Lib.index l [34]+1:=by
   rw [Lib.index,if_neg (by simp [List.isPrefixOf];exact fun e=>hb e.symm)]
  have hg:=Lib.index_ge l [34];by_cases h:Lib.index l [34] = -1
  ·rw [Lib.replaceK,Lib.replaceK,hi,h];rfl
  ·obtain ⟨i,hi2⟩:∃ i:Nat,Lib.index l [34]=i:=⟨(Lib.index l [34]).toNat,by omega⟩;have hi3:Lib.index (b :: l) [34]=((i+1:Nat):Int):=by rw [hi,hi2,if_neg (by simp)];omega
   rw [Lib.replaceK_hit _ _ _ _ _ hi2,Lib.replaceK_hit _ _ _ _ _ hi3];simp
theorem replace_quoF (f:List UInt8):Lib.replaceAll f [34] [34,34]=quoF f:=by
 have key:∀ f:List UInt8,Lib.replaceK [34] [34,34] (Lib.count f [34]) f=quoF f:=by
  intro f
  induction f with
  | nil=>rfl
  | cons b l ih =>
   by_cases hb:b=34
   ·subst hb;have hi:Lib.index (34 :: l) [34]=((0:Nat):Int):=(by rw [Lib.index,if_pos (by simp [List.isPrefixOf])];rfl);rw [Lib.count_hit (by simp) hi,Nat.add_comm,Lib.replaceK_hit _ _ _ _ _ hi];have e:((34:UInt8) :: l).drop (0+[(34:UInt8)].length)=l:=rfl;rw [e,ih];rfl
   ·have hi:Lib.index (b :: l) [34]=if Lib.index l [34] == -1 then -1 else Lib.index l [34]+1:=by
     rw [Lib.index,if_neg (by simp [List.isPrefixOf];exact fun e=>hb e.symm)]
    have hc:Lib.count (b :: l) [34]=Lib.count l [34]:=by
     have hg:=Lib.index_ge l [34];by_cases h:Lib.index l [34] = -1
     ·rw [Lib.count_miss h,Lib.count_miss (by rw [hi,h];rfl)]
     ·obtain ⟨i,hi2⟩:∃ i:Nat,Lib.index l [34]=i:=⟨(Lib.index l [34]).toNat,by omega⟩;have hi3:Lib.index (b :: l) [34]=((i+1:Nat):Int):=(by rw [hi,hi2,if_neg (by simp)];omega);rw [Lib.count_hit (by simp) hi2,Lib.count_hit (by simp) hi3];rfl
    rw [hc,replaceK_pass b hb,ih];unfold quoF;rw [List.flatMap_cons,if_neg hb];rfl
 unfold Lib.replaceAll Lib.replace;rw [if_neg (by decide)];unfold Lib.replaceNum;rw [if_pos (.inl (by omega))];exact key f
end Go.Proofs.YtogecaajnjcenaaGreatDoor

