/-
  Several texts in one: Gw5, Gw6.
-/
import Derived.Test.YtogecaajnjcenaaGreatDoorMg40
import Derived.Test.YtogecaajnjcenaaGreatDoorMg32
import Derived.Test.YtogecaajnjcenaaGreatDoorMg25
namespace Go.Proofs.YtogecaajnjcenaaGreatDoor
open Go.RowKit
theorem hi14L:(Tryz.prog.info? 98).map (·.size)=some 14:=by kernel_rfl
set_option maxRecDepth 8000 in
set_option maxHeartbeats 4000000 in
theorem tellLeaf (w0:World) (how:Value) (D:NT→List UInt8) (T:Int→Int→Bool→Bool→List UInt8) (C:TextI w0 how D T) (x:NT) (ks:List ET) (b:Nat) (hg:x.good=true) (ht:x.t.length≤200)
  (hr:x.k=5∨x.k=6→goodRB x.r x.c=true∧(x.k=6→goodRB x.r2 x.c2=true)) (hk:x.k ≠ 8∧x.k ≠ 9∧x.k ≠ 10∧x.k ≠ 11∧x.k ≠ 12) :
  TellP w0 b how (.iface 98 x.val) (textE D T (.mk x ks)):=by
 intro W l XW h hl;have HI:Hid (∀ W',Ext W W'→Calls Tryz.prog 43 #[.pointer (some ⟨b,0,none⟩),x.val] W' fun e w'=>e=.returned (sV (textE D T (.mk x ks)))∧Ext W' w'):=fun W' X'=>leafI w0 how D T C x ks b W' (Wr.later h X').how (xt XW X') hg ht hr hk;obtain ⟨R,hR⟩:∃ R,textE D T (.mk x ks)=R:=⟨_,rfl⟩;rw [hR] at HI hl ⊢;have HW:Hid (Way w0 W b how W l):=Way.start XW h;have HL:Hid _:=hl;clear C hg ht hr hk h hl XW hR;obtain ⟨k,t,ng,d,e,r,cc,f,g,ra,ca,fa,ga,q⟩:=x;obtain ⟨wz,hz9,XZ,VZ,-⟩:=boxed W [.int .i64 0,.string ⟨#[]⟩,.bool false,.int .i64 0,.int .i64 0,.int .i64 0,.int .i64 0,.bool false,.bool false,.int .i64 0,.int .i64 0,.bool false,.bool false,.int .i64 0] 98;have VT:=VZ.there;have VR:=World.rangeAt_setCells_same wz W.heap.size 0 (NT.cells ⟨k,t,ng,d,e,r,cc,f,g,ra,ca,fa,ga,q⟩) VT;have XR:=Ext.setCells (b:=W.heap.size) (Nat.le_refl _) (NT.cells ⟨k,t,ng,d,e,r,cc,f,g,ra,ca,fa,ga,q⟩) 0 wz XZ;obtain ⟨w5,h5⟩:∃ z5,wz.setCells W.heap.size 0 (NT.cells ⟨k,t,ng,d,e,r,cc,f,g,ra,ca,fa,ga,q⟩)=z5:=⟨_,rfl⟩;rw [h5] at VR XR;have H5:Hid (Way w0 W b how w5 l):=Way.ofExt HW.out XR;have CC:=HI.out w5 XR;have one:((NT.cells ⟨k,t,ng,d,e,r,cc,f,g,ra,ca,fa,ga,q⟩).toArray).all (·.oneCell')=true:=by simp [Value.oneCell']
 have TA:=taYes_leaf;clear VZ XZ XR HI HW;show Calls Tryz.prog 25 #[.pointer (some ⟨b,0,none⟩),.iface 98 (.agg #[.int .i64 k,sV t,.bool ng,.int .i64 d,.int .i64 e,.int .i64 r,.int .i64 cc,.bool f,.bool g,.int .i64 ra,.int .i64 ca,.bool fa,.bool ga,.int .i64 q])] W _;go_enter Tryz.func25,Tryz.ntmps25;go_wp2_with (first | (refine store_to rfl _ _ _ rfl W.heap.size 0 (NT.cells ⟨k,t,ng,d,e,r,cc,f,g,ra,ca,fa,ga,q⟩).toArray rfl rfl VT hi14L one h5 ?_;go_frame) | (refine wpList_load_mid rfl 43 (.tmp 15) rfl W.heap.size 0 rfl (NT.cells ⟨k,t,ng,d,e,r,cc,f,g,ra,ca,fa,ga,q⟩) _ VR Tryz.underlying43 rfl hi14N ?_));refine CC.mono ?_;rintro e w6 ⟨rfl,e6⟩;have H6:Hid (Way w0 W b how w6 l):=Way.ofExt H5.out e6;clear e6 H5 VR VT;go_wp2_with fail;refine (putW _ b how l R w6 H6.out.wr HL.out).mono ?_;rintro e w7 ⟨rfl,h7,x7⟩;have H7:Hid (Way w0 W b how w7 (l++R)):=Way.step H6.out h7 x7;clear h7 x7 H6;go_wp2_with fail
 go_end0
 exact ⟨rfl,H7.out.wr,H7.out.only⟩
set_option maxRecDepth 8000 in
set_option maxHeartbeats 4000000 in
theorem tellSig (w0:World) (b:Nat) (how:Value) (k:Int) (hk:k=8∨k=9) (T:TypeId) (a:Value) (u:List UInt8) (lv:Int) (hv:LevI T a lv) (ht:TellP w0 b how (.iface T a) u) :
  TellP w0 b how (.iface 101 (.agg #[.int .i64 k,.iface T a])) (if k=8 then 45 :: kidT lv 6 u else kidT lv 7 u++[37]):=by
 intro W l XW h hl;obtain ⟨R,hR⟩:∃ R,(if k=8 then 45 :: kidT lv 6 u else kidT lv 7 u++[37])=R:=⟨_,rfl⟩;have CT:Hid (∀ W',Way w0 W b how W' l→Calls Tryz.prog 44 #[.pointer (some ⟨b,0,none⟩),.agg #[.int .i64 k,.iface T a]] W' fun e w'=>e=.returned (.tuple #[])∧Wr w' w0.heap.size b how (l++R)∧WrX b W' w'):=fun W' Y=>by
  have:=tellSignedI w0 b how k hk T a u lv hv ht W' l Y.ext Y.wr hl;rw [hR] at this;exact this
 rw [hR];obtain ⟨wa,ha,X,VN,-⟩:=boxed W [.int .i64 k,.iface T a] 101;have c:=vC2 VN;have H5:Hid (Way w0 W b how wa l):=Way.ofExt (Way.start XW h) X;have T1:=taNo_signed_leaf;have T2:=taYes_signed;clear hR hl h XW X VN hv ht hk;go_enter Tryz.func25,Tryz.ntmps25;go_wp2_with fail;refine (CT.out _ H5.out).mono ?_;rintro e w6 ⟨rfl,h6,x6⟩;have H6:Hid (Way w0 W b how w6 (l++R)):=Way.step H5.out h6 x6;clear h6 x6 H5 c;go_wp2_with fail
 go_end0
 exact ⟨rfl,H6.out.wr,H6.out.only⟩
set_option maxRecDepth 8000 in
set_option maxHeartbeats 4000000 in
theorem tellPair (w0:World) (b:Nat) (how:Value) (t:List UInt8) (lev:Int) (hlev:1≤lev∧lev≤5) (T:TypeId) (a:Value) (u:List UInt8) (lv:Int) (hv:LevI T a lv) (ht:TellP w0 b how (.iface T a) u)
  (T':TypeId) (a':Value) (u':List UInt8) (lv':Int) (hv':LevI T' a' lv') (ht':TellP w0 b how (.iface T' a') u') :
  TellP w0 b how (.iface 106 (.agg #[sV t,.int .i64 lev,.iface T a,.iface T' a'])) (kidT lv lev u++(t++kidT lv' (lev+1) u')):=by
 intro W l XW h hl;obtain ⟨A,hA⟩:∃ A,kidT lv lev u=A:=⟨_,rfl⟩;obtain ⟨B,hB⟩:∃ B,kidT lv' (lev+1) u'=B:=⟨_,rfl⟩;have CA:Hid (∀ W' l',Ext w0 W'→Wr W' w0.heap.size b how l'→l'.length+A.length≤9000000→Calls Tryz.prog 45 #[.pointer (some ⟨b,0,none⟩),.iface T a,.int .i64 lev] W' fun e w'=>e=.returned (.tuple #[])∧Wr w' w0.heap.size b how (l'++A)∧WrX b W' w'):=fun W' l' X' h' hl'=>by
  have:=tellAtI w0 b how T a u lv lev hv ht W' l' X' h' (by rw [hA];exact hl');rw [hA] at this;exact this
 have CB:Hid (∀ W' l',Ext w0 W'→Wr W' w0.heap.size b how l'→l'.length+B.length≤9000000→Calls Tryz.prog 45 #[.pointer (some ⟨b,0,none⟩),.iface T' a',.int .i64 (lev+1)] W' fun e w'=>e=.returned (.tuple #[])∧Wr w' w0.heap.size b how (l'++B)∧WrX b W' w'):=fun W' l' X' h' hl'=>by
  have:=tellAtI w0 b how T' a' u' lv' (lev+1) hv' ht' W' l' X' h' (by rw [hB];exact hl');rw [hB] at this;exact this
 rw [hA,hB] at hl ⊢;have HL:Hid (l.length+A.length+t.length+B.length≤9000000):=by
  simp only [List.length_append] at hl;show l.length+A.length+t.length+B.length≤9000000;omega
 obtain ⟨wa,ha,X,VN,-⟩:=boxed W [sV t,.int .i64 lev,.iface T a,.iface T' a'] 106;have hsz:wa.heap.size=W.heap.size+1:=by rw [← ha,World.size_alloc]
 have HS:Hid (Safe wa b W.heap.size):=safe_new h X (Nat.le_refl _) (by omega);have c:=vC4 VN;have HV:Hid (Vec wa W.heap.size [sV t,.int .i64 lev,.iface T a,.iface T' a']):=VN;have H5:Hid (Way w0 W b how wa l):=Way.ofExt (Way.start XW h) X;have T1:=taNo_pair_leaf;have T2:=taNo_pair_signed;have T3:=taYes_pair;have hwr:IntKind.i64.wrap (lev+1)=lev+1:=by rw [IntKind.wrap_i64] <;> omega
 clear hA hB hl h XW X VN hv ht hv' ht' hsz;go_enter Tryz.func25,Tryz.ntmps25;go_wp2_with fail;refine (CA.out _ _ H5.out.ext H5.out.wr (by have:=HL.out;omega)).mono ?_;rintro e w6 ⟨rfl,h6,x6⟩;have H6:Hid (Way w0 W b how w6 (l++A)):=Way.step H5.out h6 x6;have c6:=vC4 (vec_same HV.out (Safe.same HS.out x6));have V6:Hid (Vec w6 W.heap.size [sV t,.int .i64 lev,.iface T a,.iface T' a']∧Safe w6 b W.heap.size):=⟨vec_same HV.out (Safe.same HS.out x6),Safe.keep HS.out x6⟩;clear h6 x6 H5 c HV HS CA;go_wp2_with fail;refine (putW _ b how _ t w6 H6.out.wr (by have:=HL.out;simp only [List.length_append];omega)).mono ?_;rintro e w7 ⟨rfl,h7,x7⟩;have H7:Hid (Way w0 W b how w7 ((l++A)++t)):=Way.step H6.out h7 x7;have c7:=vC4 (vec_same V6.out.1 (Safe.same V6.out.2 x7));clear h7 x7 H6 c6 V6;go_wp2_with fail;refine (CB.out _ _ H7.out.ext H7.out.wr (by have:=HL.out;simp only [List.length_append];omega)).mono ?_;rintro e w8 ⟨rfl,h8,x8⟩;have H8:Hid (Way w0 W b how w8 (((l++A)++t)++B)):=Way.step H7.out h8 x8;clear h8 x8 H7 c7;go_wp2_with fail
 go_end0
 exact ⟨rfl,(H8.out.cast (by simp)).wr,H8.out.only⟩
set_option maxRecDepth 8000 in
set_option maxHeartbeats 4000000 in
theorem tellCall (w0:World) (b:Nat) (how:Value) (t:List UInt8) (htl:t.length≤200) (p:Option Addr) (cap:Nat) (s:Nat→Value) (us:List (List UInt8))
  (hp:0<us.length→∃ g,p=some ⟨g,0,none⟩∧g<w0.heap.size∧∀ i,i<us.length→w0.cell? ⟨g,i,none⟩=some (s i))
  (hs:∀ i,i<us.length→∃ T a,s i=.iface T a) (ht:∀ i,i<us.length→TellP w0 b how (s i) (us.getD i [])) (hn:us.length≤1000) :
  TellP w0 b how (.iface 110 (.agg #[sV t,.slice p us.length cap])) (t++(40 :: (joinF us.length us us.length++[41]))):=by
 intro W l XW h hl;obtain ⟨J,hJ⟩:∃ J,joinF us.length us us.length=J:=⟨_,rfl⟩;have CL:Hid (∀ W' l',Ext w0 W'→Wr W' w0.heap.size b how l'→l'.length+J.length≤9000000→Calls Tryz.prog 46 #[.pointer (some ⟨b,0,none⟩),.slice p us.length cap,.int .i64 us.length] W' fun e w'=>e=.returned (.tuple #[])∧Wr w' w0.heap.size b how (l'++J)∧WrX b W' w'):=fun W' l' X' h' hl'=>by
  have:=tellListI w0 b how us.length p cap s us hp hs ht (fun h=>h) hn W' l' X' h' (by rw [hJ];exact hl');rw [hJ] at this;exact this
 rw [hJ] at hl ⊢;have HL:Hid (l.length+t.length+J.length+2≤9000000):=by
  simp only [List.length_append,List.length_cons,List.length_nil] at hl;show l.length+t.length+J.length+2≤9000000;omega
 obtain ⟨n,hnn⟩:∃ n,us.length=n:=⟨_,rfl⟩;rw [hnn] at CL ⊢;obtain ⟨wa,ha,X,VN,-⟩:=boxed W [sV t,.slice p n cap] 110;have hsz:wa.heap.size=W.heap.size+1:=by rw [← ha,World.size_alloc]
 have HS:Hid (Safe wa b W.heap.size):=safe_new h X (Nat.le_refl _) (by omega);have c:=vC2 VN;have HV:Hid (Vec wa W.heap.size [sV t,.slice p n cap]):=VN;have H5:Hid (Way w0 W b how wa l):=Way.ofExt (Way.start XW h) X;have T1:=taNo_call_leaf;have T2:=taNo_call_signed;have T3:=taNo_call_pair;have T4:=taYes_call;have q1:(9223372036854775807<t.length+1)=False:=eq_false (by omega);obtain ⟨t',ht'⟩:∃ t',t++[40]=t':=⟨_,rfl⟩;have hS:(⟨t.toArray⟩:ByteArray)++⟨#[40]⟩=⟨t'.toArray⟩:=by rw [← ht'];exact bs_of (by simp)
 have HT':Hid _:=ht';have hl':Hid (t'.length=t.length+1):=by show _=_;rw [← ht'];simp
 clear hJ hl h XW X VN hp hs ht hn hnn hsz ht';go_enter Tryz.func25,Tryz.ntmps25;go_wp2_with fail
 (try rw [hS])
 refine (putW _ b how l t' wa H5.out.wr (by have:=HL.out;have:=hl'.out;omega)).mono ?_;rintro e w6 ⟨rfl,h6,x6⟩;have H6:Hid (Way w0 W b how w6 (l++t')):=Way.step H5.out h6 x6;have c6:=vC2 (vec_same HV.out (Safe.same HS.out x6));clear h6 x6 H5 c HV HS;go_wp2_with fail;refine (CL.out _ _ H6.out.ext H6.out.wr (by have:=HL.out;have:=hl'.out;simp only [List.length_append];omega)).mono ?_;rintro e w7 ⟨rfl,h7,x7⟩;have H7:Hid (Way w0 W b how w7 ((l++t')++J)):=Way.step H6.out h7 x7;clear h7 x7 H6 c6 CL;go_wp2_with fail;refine (putW _ b how _ [41] w7 H7.out.wr (by have:=HL.out;have:=hl'.out;simp only [List.length_append,List.length_cons,List.length_nil];omega)).mono ?_;rintro e w8 ⟨rfl,h8,x8⟩;have H8:Hid (Way w0 W b how w8 (((l++t')++J)++[41])):=Way.step H7.out h8 x8;clear h8 x8 H7;go_wp2_with fail
 go_end0
 exact ⟨rfl,(H8.out.cast (by rw [← HT'.out];simp)).wr,H8.out.only⟩
set_option maxRecDepth 8000 in
set_option maxHeartbeats 4000000 in
theorem tellArray (w0:World) (b:Nat) (how:Value) (R:Nat) (p:Option Addr) (cap:Nat) (s:Nat→Value) (us:List (List UInt8)) (hR:1≤R∧R≤us.length)
  (hp:0<us.length→∃ g,p=some ⟨g,0,none⟩∧g<w0.heap.size∧∀ i,i<us.length→w0.cell? ⟨g,i,none⟩=some (s i))
  (hs:∀ i,i<us.length→∃ T a,s i=.iface T a) (ht:∀ i,i<us.length→TellP w0 b how (s i) (us.getD i [])) (hn:us.length≤1000) :
  TellP w0 b how (.iface 113 (.agg #[.int .i64 (R:Int),.slice p us.length cap])) (123 :: (joinF (us.length / R) us us.length++[125])):=by
 intro W l XW h hl;obtain ⟨C,hC⟩:∃ q,us.length / R=q:=⟨_,rfl⟩;have hC1:1≤C∧C≤1000:=by
  have h3:=Nat.div_pos hR.2 hR.1;have h4:=Nat.div_le_self us.length R;rw [hC] at h3 h4;omega
 obtain ⟨J,hJ⟩:∃ J,joinF C us us.length=J:=⟨_,rfl⟩;have CL:Hid (∀ W' l',Ext w0 W'→Wr W' w0.heap.size b how l'→l'.length+J.length≤9000000→Calls Tryz.prog 46 #[.pointer (some ⟨b,0,none⟩),.slice p us.length cap,.int .i64 (C:Int)] W' fun e w'=>e=.returned (.tuple #[])∧Wr w' w0.heap.size b how (l'++J)∧WrX b W' w'):=fun W' l' X' h' hl'=>by
  have:=tellListI w0 b how C p cap s us hp hs ht (fun _=>hC1.1) hn W' l' X' h' (by rw [hJ];exact hl');rw [hJ] at this;exact this
 rw [hC,hJ] at hl ⊢;have HL:Hid (l.length+J.length+2≤9000000):=by
  simp only [List.length_append,List.length_cons,List.length_nil] at hl;show l.length+J.length+2≤9000000;omega
 obtain ⟨n,hnn⟩:∃ n,us.length=n:=⟨_,rfl⟩;rw [hnn] at CL hC hn hR ⊢;have hq:(n:Int).tdiv (R:Int)=(C:Int):=by rw [← hC];exact (Int.ofNat_tdiv n R).symm
 have hRz:¬ (R:Int)=0:=by omega
 have hRz2:((R:Int) == 0)=false:=by simp;omega
 have hqw:IntKind.i64.wrap (C:Int)=(C:Int):=by rw [IntKind.wrap_i64] <;> omega
 obtain ⟨wa,ha,X,VN,-⟩:=boxed W [.int .i64 (R:Int),.slice p n cap] 113;have hsz:wa.heap.size=W.heap.size+1:=by rw [← ha,World.size_alloc]
 have HS:Hid (Safe wa b W.heap.size):=safe_new h X (Nat.le_refl _) (by omega);have c:=vC2 VN;have HV:Hid (Vec wa W.heap.size [.int .i64 (R:Int),.slice p n cap]):=VN;have H5:Hid (Way w0 W b how wa l):=Way.ofExt (Way.start XW h) X;have T1:=taNo_array_leaf;have T2:=taNo_array_signed;have T3:=taNo_array_pair;have T4:=taNo_array_call;have T5:=taYes_array;clear hJ hl h XW X VN hp hs ht hn hnn hsz hC hC1 hR;go_enter Tryz.func25,Tryz.ntmps25;go_wp2_with fail;refine (putW _ b how l [123] wa H5.out.wr (by have:=HL.out;simp only [List.length_cons,List.length_nil];omega)).mono ?_;rintro e w6 ⟨rfl,h6,x6⟩;have H6:Hid (Way w0 W b how w6 (l++[123])):=Way.step H5.out h6 x6;have c6:=vC2 (vec_same HV.out (Safe.same HS.out x6));clear h6 x6 H5 c HV HS;have H6:Hid (Way w0 W b how w6.drew (l++[123])):=Way.ofExt H6.out (xd (xr _));have CT:=CL.out w6.drew _ H6.out.ext H6.out.wr (by have:=HL.out;simp only [List.length_append,List.length_cons,List.length_nil];omega);clear CL;go_upto_region 20 with fail;go_region_with (refine CT.mono ?_;rintro e w7 ⟨rfl,h7,x7⟩;go_wp2_with fail)
 all_goals
  have H7:Hid (Way w0 W b how w7 ((l++[123])++J)):=Way.step H6.out h7 x7;clear h7 x7 H6 c6 CT;go_wp2_with fail;refine (putW _ b how _ [125] w7 H7.out.wr (by have:=HL.out;simp only [List.length_append,List.length_cons,List.length_nil];omega)).mono ?_;rintro e w8 ⟨rfl,h8,x8⟩;have H8:Hid (Way w0 W b how w8 (((l++[123])++J)++[125])):=Way.step H7.out h8 x8;clear h8 x8 H7;go_wp2_with fail
  go_end0
  exact ⟨rfl,(H8.out.cast (by simp)).wr,H8.out.only⟩
end Go.Proofs.YtogecaajnjcenaaGreatDoor

