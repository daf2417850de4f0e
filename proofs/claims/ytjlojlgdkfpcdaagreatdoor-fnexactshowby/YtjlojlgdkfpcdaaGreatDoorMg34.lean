/-
  Several texts in one: L5, L6, L7, Sd4, Sto, Stc.
-/
import Derived.Test.YtjlojlgdkfpcdaaGreatDoorMg32
import Derived.Test.YtjlojlgdkfpcdaaGreatDoorShelc
import Derived.BigRegion
import Derived.Test.YtjlojlgdkfpcdaaGreatDoorMg21
import Derived.Test.YtjlojlgdkfpcdaaGreatDoorMg30
import Derived.Test.YtjlojlgdkfpcdaaGreatDoorMg29
import Derived.Test.YtjlojlgdkfpcdaaGreatDoorMg25
import Derived.Lib.Builder
import Derived.Test.YtjlojlgdkfpcdaaGreatDoorMg0
import Derived.Deep.MidRow
import Derived.Test.YtjlojlgdkfpcdaaGreatDoorMg1
namespace Go.Proofs.YtjlojlgdkfpcdaaGreatDoor
open Go.RowKit
theorem extraK:Builder.Extra Tryz.prog layRepeat_ren:={
 sizeBuilder:=by kernel_rfl
 liesBuilder:=by kernel_rfl
 t5:=layRepeat.t5
 a5:=layRepeat.a5
 z5:=layRepeat.z5
 v5:=layRepeat.v5
 infoByte:=by kernel_rfl
 cellsByte:=by kernel_rfl
 sizeByte:=by kernel_rfl
 neB5:=by decide }
theorem fRepeatK:layRepeat_ren.f 105=45:=by kernel_rfl
theorem repF_rep (c:UInt8) (n:Nat):repF [c] n=List.replicate n c:=by
 induction n with
 | zero=>rfl
 | succ n ih=>rw [List.replicate_succ',← ih];rfl
theorem repeatI (c:UInt8) (n:Nat) (hn:n≤1000) (w:World) :
  Calls Tryz.prog 45 #[sV [c],.int .i64 (n:Int)] w fun e w'=>e=.returned (sV (repF [c] n))∧Ext w w':=by
 have h:=Any.strings_Repeat layRepeat extraK ⟨#[c]⟩ n w (by omega) (by show 1 * n≤_;omega);rw [fRepeatK] at h;refine h.mono fun e w' ⟨he,hw⟩=>⟨?_,hw⟩;rw [he,repF_rep];have e:=Lib.repeatL_replicate c 1 n;simp only [Nat.mul_one] at e;rw [← e];rfl
theorem extraJ:Builder.Extra Tryz.prog layJoin_ren:={
 sizeBuilder:=by kernel_rfl
 liesBuilder:=by kernel_rfl
 t5:=layRepeat.t5
 a5:=layRepeat.a5
 z5:=layRepeat.z5
 v5:=layRepeat.v5
 infoByte:=by kernel_rfl
 cellsByte:=by kernel_rfl
 sizeByte:=by kernel_rfl
 neB5:=by decide }
abbrev BldD (w:World) (B b:Nat) (l:List UInt8):Prop:=Lib.IsBuilder 80 5 B b (Lib.byteCells l) w
theorem t72D:layJoin_ren.t 72=80:=by kernel_rfl
theorem t5D:layJoin_ren.t 5=5:=by kernel_rfl
theorem fWriteD:layJoin_ren.f 166=47:=by kernel_rfl
theorem fStringD:layJoin_ren.f 169=48:=by kernel_rfl
theorem bldAt_laterD {w w':World} {B b:Nat} {p:Value} {bs:List Value} (h:Lib.BuilderAt 80 5 B b p bs w) (x:Ext w w'):Lib.BuilderAt 80 5 B b p bs w':=by
 have hlt:=h.lt;obtain ⟨h1,v,h2,h3,h4⟩:=h;refine ⟨h1,v,by rw [x.block b hlt];exact h2,⟨h3.1,h3.2.imp id ?_⟩,h4⟩;rintro ⟨g,cap,cur,rfl,q2,q3,q4⟩;have hg:g<w.heap.size:=by
  rcases Nat.lt_or_ge g w.heap.size with h' | h'
  ·exact h'
  ·rw [Array.getElem?_eq_none h'] at q3;cases q3
 exact ⟨g,cap,cur,rfl,q2,by rw [x.block g hg];exact q3,q4⟩
theorem bld_laterD {w w':World} {B b:Nat} {l:List UInt8} (h:BldD w B b l) (x:Ext w w'):BldD w' B b l:=h.imp (fun q=>bldAt_laterD q x) (fun q=>bldAt_laterD q x)
theorem byteCells_appD (a b:List UInt8):Lib.byteCells (a++b)=Lib.byteCells a++Lib.byteCells b:=by simp [Lib.byteCells]
theorem writeD (B b:Nat) (l t:List UInt8) (w:World) (h:BldD w B b l) (hl:l.length+t.length≤100000000) (hB:B≤w.heap.size) :
  Calls Tryz.prog 47 #[.pointer (some ⟨b,0,none⟩),sV t] w fun e w'=>e=.returned (.tuple #[.int .i64 t.length,.nilIface])∧BldD w' B b (l++t)∧Below B w w':=by
 have q:=Any.Builder_WriteString (P:=Tryz.prog) (ρ:=layJoin_ren) { layJoin with } extraJ B b (Lib.byteCells l) ⟨t.toArray⟩ w (by rw [t72D,t5D];exact h) (by rw [Lib.byteCells_length];show l.length+t.length≤_;omega) hB;rw [fWriteD,t72D,t5D] at q;refine q.mono fun e w' ⟨he,hb,hx⟩=>⟨he,.inr ?_,hx⟩;rw [byteCells_appD];exact hb
theorem strD (B b:Nat) (l:List UInt8) (w:World) (h:BldD w B b l) (hB:B≤w.heap.size) :
  Calls Tryz.prog 48 #[.pointer (some ⟨b,0,none⟩)] w fun e w'=>e=.returned (sV l)∧Below B w w':=by
 have q:=Any.Builder_String_any (P:=Tryz.prog) (ρ:=layJoin_ren) { layJoin with } extraJ B b l w (by rw [t72D,t5D];exact h) hB;rw [fStringD] at q;exact q
theorem isDt_ex (z:Int) (w:World) (h0 : -1000000≤z) (h1:z≤1000000):∃ y m d,IsDt 1 z y m d:=by
 obtain ⟨e,w',fr,⟨y,m,d,_,⟨h,_⟩,_⟩,_⟩:=dateOfS 1 z w (.inl rfl) (by omega) (by omega) [];exact ⟨y,m,d,h⟩
theorem parts_cons {f:Nat} {R:BL} {qs:List BL} (h:partsF f R=some qs) (h0:R ≠ []):∃ f' qs',qs=wordF R :: qs'∧wordF R ∈ wordsT∧partsF f' (R.drop (wordF R).length)=some qs'∧1≤(wordF R).length∧(wordF R).length≤R.length:=by
 cases f with
 | zero=>rw [partsF,if_neg h0] at h;cases h
 | succ f =>
  rw [partsF,if_neg h0] at h
  split at h
  ·cases h
  ·next hw =>
   cases hp:partsF f (R.drop (wordF R).length) with
   | none=>rw [hp] at h;cases h
   | some qs' =>
    rw [hp] at h;cases h;refine ⟨f,qs',rfl,wordF_memY R hw,hp,?_,wordF_le R⟩;cases hl:wordF R with
    | nil=>exact absurd hl hw
    | cons a b=>simp
theorem parts_nilD {f:Nat} {qs:List BL} (h:partsF f []=some qs):qs=[]:=by
 cases f with
 | zero=>rw [partsF,if_pos rfl] at h;cases h;rfl
 | succ f=>rw [partsF,if_pos rfl] at h;cases h;rfl
theorem Vec.put3 {w:World} {b:Nat} {v0 v1 v2:Value} (h:Vec w b [v0,v1,v2]) (u0 u1 u2:Value):Vec (setL w b 0 [u0,u1,u2]) b [u0,u1,u2]:=
 ((h.put 0 (by simp) u0).put 1 (by simp) u1).put 2 (by simp) u2
theorem vec_sameD {w w':World} {g:Nat} {L:List Value} (V:Vec w g L) (h:w'.heap[g]?=w.heap[g]?):Vec w' g L:=fun i v hv=>by
 have q:=V i v hv;unfold World.cell? World.frozen? at q ⊢;simp only [h];exact q
theorem field_valD (k:Int) (n:Bool) (d x:Int) (t:List UInt8) (W:World):(Instr.field 33 (valV k n d x t) 1).run Tryz.prog W=.ok (decV n d x) W:=by kernel_rfl
set_option maxRecDepth 8000 in
set_option maxHeartbeats 8000000 in
theorem dateShownI (RP:RepC) (n:Bool) (d e:Int) (g:goodB n d e=true) (dt:BLs) (ps:List BLs) (hp:partsF dt.length dt=some ps) (hps:1≤ps.length∧ps.length≤12) (hl:dt.length≤1000) (w:World) (IT:ItoaC w) (hT:Tens w) (hM:Months w) (hC:Cals w) (TK:TabK w) :
  Calls Tryz.prog 71 #[sV dt,decV n d e] w fun r w'=>r=.returned (sV (dateA n d e ps))∧Ext w w':=by
 obtain ⟨A,hA⟩:∃ A,dateA n d e ps=A:=⟨_,rfl⟩;have HA:Hid (dateA n d e ps=A):=hA;rw [hA];clear hA;obtain ⟨sf,s0,s1⟩:=sec_range n d e g;obtain ⟨g0,g1,-⟩:=good_all g;obtain ⟨F,hF⟩:∃ F,floorZ n d e=F:=⟨_,rfl⟩;have HFD:FitD F:=by rw [← hF];exact round_fitD _ _ _ _ _
 rw [hF] at sf s0 s1;have HF:=hid hF;obtain ⟨fok,fn,fd,fe⟩:=F;have sf:fok=true:=sf;subst sf;obtain ⟨z,hz⟩:∃ z,intR fn fd fe=z:=⟨_,rfl⟩;obtain ⟨zk,hzk⟩:∃ z,intOk fn fd fe=z:=⟨_,rfl⟩;obtain ⟨sc,hsc⟩:∃ z,intR (secR n d e fn fd fe).neg (secR n d e fn fd fe).d (secR n d e fn fd fe).e=z:=⟨_,rfl⟩;have s0:0≤sc:=by rw [← hsc];exact s0
 have s1:sc≤1000000:=by rw [← hsc];exact s1
 have f0:0≤fd:=HFD.1;have f1:fd<1000000000000000:=HFD.2;have HD:Hid (A=if (zk && decide (-1000000≤z∧z≤1000000))=true then dateT (ymdZ z).1 (ymdZ z).2.1 (ymdZ z).2.2 sc ps else [35]):=by
  show A=_;rw [← HA.out];unfold dateA;simp only [HF.out,hz,hzk,hsc]
 obtain ⟨k1,hk1⟩:∃ k:Int,1=k:=⟨_,rfl⟩;obtain ⟨t1,ht1⟩:∃ t:List UInt8,[]=t:=⟨_,rfl⟩;have CV:Hid (∀ W,Calls Tryz.prog 126 #[decV n d e] W fun r w'=>r=.returned (valV k1 n d e t1)∧Ext W w'):=fun W=>by rw [← hk1,← ht1];exact numVI n d e W
 have CF:Hid (∀ W,Ext w W→Calls Tryz.prog 125 #[valV k1 n d e t1] W fun r w'=>r=.returned (valV k1 fn fd fe t1)∧Ext W w'):=fun W X=>by rw [← hk1,← ht1];exact floorVI n d e fn fd fe W g0 g1 (hT.later X) HF.out
 have CN:Hid (∀ W,Ext w W→Calls Tryz.prog 127 #[decV fn fd fe] W fun r w'=>r=.returned (.tuple #[.int .i64 z,.bool zk])∧Ext W w'):=fun W X=>by rw [← hz,← hzk];exact intI fn fd fe W (by omega) (by omega) (hT.later X)
 have CD:Hid (∀ W,Calls Tryz.prog 128 #[.int .i64 z] W fun r w'=>r=.returned (.bool (decide (-1000000≤z∧z≤1000000)))∧w'=W):=fun W=>dayI z W;have CS:Hid (∀ W,Ext w W→Calls Tryz.prog 130 #[decV n d e,decV fn fd fe] W fun r w'=>r=.returned (.int .i64 sc)∧Ext W w'):=fun W X=>by rw [← hsc];exact secondI n d e fn fd fe W g0 g1 f0 f1 (hT.later X)
 have FV:=field_valD k1 fn fd fe t1;have HPS:=hid hps;have HPP:=hid hp;have HS0:Hid (0≤sc∧sc≤1000000):=⟨s0,s1⟩;have HIT:=hid IT;have HRP:=hid RP;have HMC:=hid (And.intro hM (And.intro hC TK));have HDL:=hid hl;clear hF hz hzk hsc s0 s1 f0 f1 hk1 ht1 HA HF HFD hp hps g g0 g1 hT hM hC TK IT RP hl;obtain ⟨wa,ha,X1,VD,-⟩:=boxed w [.bool n,.int .i64 d,.int .i64 e] 31;have HVD:=hid VD;have c0:=vC3 VD;clear VD;obtain ⟨q0,hq0⟩:∃ z,w.heap.size=z:=⟨_,rfl⟩;rw [hq0] at HVD c0;have HQ0:Hid (w.heap.size=q0):=hq0;go_enter Tryz.func71,Tryz.ntmps71;go_wp2_with fail;refine (CV.out _).mono ?_;rintro r w2 ⟨rfl,e2⟩;have X2:=xt X1 e2;go_wp2_with fail;refine (CF.out _ X2).mono ?_;rintro r w3 ⟨rfl,e3⟩;have X3:=xt X2 e3;obtain ⟨w4,h4,X4,V4,-⟩:=boxed w3 [.bool fn,.int .i64 fd,.int .i64 fe] 31;obtain ⟨q1,hq1⟩:∃ z,w3.heap.size=z:=⟨_,rfl⟩;rw [hq1] at V4;have Y4:=xt X3 X4;have HV4:=hid V4;have HV0:=hid (HVD.out.later (xt e2 (xt e3 X4)));have c4:=vC3 V4;have hq01:q0 ≠ q1:=by have:=(xt e2 e3).size;have h:=World.block_lt_of_cell? _ _ c0.1;have h:q0<wa.heap.size:=h;omega
 have HQ1:Hid (w3.heap.size=q1):=hq1;clear ha c0 hq0 V4 X2 e2 X3 e3 X4;go_wp2_with fail;clear h4 hq1;refine (CN.out _ Y4).mono ?_;rintro r w5 ⟨rfl,e5⟩;have Y5:=xt Y4 e5;have HV0:=hid (HV0.out.later e5);have HV4:=hid (HV4.out.later e5);clear c4;cases zk
 ·have HE:Hid (A=[35]):=by show _=_;rw [HD.out];rfl
  go_wp2_with fail;go_ret;exact ⟨retZ (by rw [HE.out]),Y5⟩
 obtain ⟨dk,hdk⟩:∃ b,decide (-1000000≤z∧z≤1000000)=b:=⟨_,rfl⟩;rw [hdk] at CD HD;cases dk
 ·have HE:Hid (A=[35]):=by show _=_;rw [HD.out];rfl
  go_wp2_with (go_at_call 128;refine (CD.out _).mono ?_;rintro r w6 ⟨rfl,rfl⟩);go_ret;exact ⟨retZ (by rw [HE.out]),Y5⟩
 have hz0 : -1000000≤z∧z≤1000000:=of_decide_eq_true hdk;have HZ:=hid hz0;clear hdk hz0;obtain ⟨y,mo,da,hdt⟩:=isDt_ex z w HZ.out.1 HZ.out.2;obtain ⟨hy,hmo,hda⟩:=isDt_in hdt HZ.out.1 HZ.out.2;have HE:Hid (A=dateT y mo da sc ps):=by
  show A=_;rw [HD.out,ymd_is hdt];rfl
 have HIN:Hid ((-5000≤y∧y≤9999)∧(1≤mo∧mo≤12)∧1≤da∧da≤31):=⟨hy,hmo,hda⟩;have CY:Hid (∀ W,Ext w W→Calls Tryz.prog 129 #[.int .i64 1,.int .i64 z] W fun r w'=>r=.returned (.agg #[.int .i64 y,.int .i64 mo,.int .i64 da])∧Ext W w'):=fun W X=>by
  refine (DateOfI 1 z W (HMC.out.1.later X) (HMC.out.2.1.later X)).mono ?_;rintro r w' ⟨y',m',d',rfl,hr,e'⟩;unfold DateRes at hr;rw [if_pos ⟨.inl rfl,HZ.out⟩] at hr;obtain ⟨rfl,rfl,rfl⟩:=hr.1.one hdt;exact ⟨rfl,e'⟩
 clear hdt hy hmo hda CN CF CV FV HD;go_upto_region 5 with (go_at_call 128;refine (CD.out _).mono ?_;rintro r w6 ⟨rfl,h6⟩;have h6:=h6.symm;subst h6);have l0:q0<w5.heap.size:=World.block_lt_of_cell? _ _ (vC3 HV0.out).1;have l1:q1<w5.heap.size:=World.block_lt_of_cell? _ _ (vC3 HV4.out).1;clear hq01;go_cut [8,9] (fun v s wx=>(∃ b,v=.pointer (some ⟨b,0,none⟩)∧Vec wx b [.int .i64 y,.int .i64 mo,.int .i64 da]∧Ext w wx)∧s=.int .i64 sc)
 case first =>
  refine wp_region_letters (fun lx:Nat→Value=>{ tmps:=#[sV dt,decV n d e,undef,Value.pointer (some ⟨q0,0,none⟩),Value.string { data:=#[] },Value.pointer (some ⟨q1,0,none⟩),Value.int .i64 z,Value.bool true,lx 8,lx 9,undef,undef,Value.agg #[Value.bool n,Value.int .i64 d,Value.int .i64 e],valV k1 n d e t1,valV k1 fn fd fe t1,decV fn fd fe,Value.tuple #[Value.int .i64 z,Value.bool true],Value.agg #[Value.bool fn,Value.int .i64 fd,Value.int .i64 fe],Value.tuple #[Value.int .i64 z,Value.bool true],Value.int .i64 z,Value.bool true,Value.bool true,Value.bool false,Value.bool false,Value.int .i64 z,Value.bool true,Value.bool false,Value.bool false,lx 28,lx 29,lx 30,lx 31,lx 32,undef,undef,undef,undef,undef,undef,undef,undef,undef,undef,undef,undef,undef,undef],defers:=[] }) (fun L lx lw=>Hid (Ext w5 lw∧Vec lw (q0) [.bool n,.int .i64 d,.int .i64 e]∧Vec lw (q1) [.bool fn,.int .i64 fd,.int .i64 fe]∧(L 0=true→lx 28=.int .i64 z)∧(L 1=true→lx 29=.agg #[.int .i64 y,.int .i64 mo,.int .i64 da])∧(L 2=true→lx 30=decV n d e)∧(L 3=true→lx 31=decV fn fd fe)∧(L 4=true→lx 32=.int .i64 sc)∧(L 5=true→∃ b,lx 8=.pointer (some ⟨b,0,none⟩)∧w5.heap.size≤b∧(L 6=false→Vec lw b [.int .i64 0,.int .i64 0,.int .i64 0])∧(L 6=true→Vec lw b [.int .i64 y,.int .i64 mo,.int .i64 da]))∧(L 6=true→L 5=true)∧(L 7=true→lx 9=.int .i64 sc))) rfl (by kernel_rfl) (fun jj=>undef) rfl ?_ ?_ ?_
  ·exact ⟨xd (xr _),HV0.out.later (xd (xr _)),HV4.out.later (xd (xr _)),(fun h=>by cases h),(fun h=>by cases h),(fun h=>by cases h),(fun h=>by cases h),(fun h=>by cases h),(fun h=>by cases h),(fun h=>by cases h),(fun h=>by cases h)⟩
  ·intro L lx wl i o K hK ho hL haf hI;obtain ⟨X,f0,f1,f2,f3,f4,f5,f6,f7,f8,f9⟩:=hI.out
   match i,ho,hL,haf,hK with
   | 0,ho,hL,haf,hK =>
    simp only [List.getElem?_toArray,List.getElem?_cons_zero,Option.some.injEq] at ho;subst ho
    (try dsimp only)
    go_wp2_with fail;exact hK (fun jj=>if jj=28 then .int .i64 z else lx jj) _ ⟨X,f0,f1,(fun _=>rfl),f3,f4,f5,f6,f7,f8,f9⟩
   | 1,ho,hL,haf,hK =>
    simp only [List.getElem?_toArray,List.getElem?_cons_zero,List.getElem?_cons_succ,Option.some.injEq] at ho;subst ho
    (try dsimp only)
    rw [f2 (haf ⟨0,.data⟩ (by simp) rfl)];go_wp2_with fail;refine (CY.out wl (xt Y5 X)).mono ?_;rintro rr w' ⟨rfl,E⟩;go_wp2_with fail;exact hK (fun jj=>if jj=29 then .agg #[.int .i64 y,.int .i64 mo,.int .i64 da] else if jj=28 then .int .i64 z else lx jj) _ ⟨xt X E,(f0.later E),(f1.later E),(fun _=>rfl),(fun _=>rfl),f4,f5,f6,(fun h=>by obtain ⟨b,h1,h2,h3,h4⟩:=f7 h;exact ⟨b,h1,h2,fun h=>(h3 h).later E,fun h=>(h4 h).later E⟩),f8,f9⟩
   | 2,ho,hL,haf,hK =>
    simp only [List.getElem?_toArray,List.getElem?_cons_zero,List.getElem?_cons_succ,Option.some.injEq] at ho;subst ho
    (try dsimp only)
    have a0:=(f0 0 _ rfl).1;have a1:=(f0 1 _ rfl).1;have a2:=(f0 2 _ rfl).1;go_wp2_with fail;exact hK (fun jj=>if jj=30 then decV n d e else lx jj) _ ⟨X,f0,f1,f2,f3,(fun _=>rfl),f5,f6,f7,f8,f9⟩
   | 3,ho,hL,haf,hK =>
    simp only [List.getElem?_toArray,List.getElem?_cons_zero,List.getElem?_cons_succ,Option.some.injEq] at ho;subst ho
    (try dsimp only)
    have a0:=(f1 0 _ rfl).1;have a1:=(f1 1 _ rfl).1;have a2:=(f1 2 _ rfl).1;go_wp2_with fail;exact hK (fun jj=>if jj=31 then decV fn fd fe else lx jj) _ ⟨X,f0,f1,f2,f3,f4,(fun _=>rfl),f6,f7,f8,f9⟩
   | 4,ho,hL,haf,hK =>
    simp only [List.getElem?_toArray,List.getElem?_cons_zero,List.getElem?_cons_succ,Option.some.injEq] at ho;subst ho
    (try dsimp only)
    rw [f4 (haf ⟨2,.data⟩ (by simp) rfl),f5 (haf ⟨3,.data⟩ (by simp) rfl)];go_wp2_with fail;refine (CS.out wl (xt Y5 X)).mono ?_;rintro rr w' ⟨rfl,E⟩;go_wp2_with fail;exact hK (fun jj=>if jj=32 then .int .i64 sc else if jj=30 then decV n d e else if jj=31 then decV fn fd fe else lx jj) _ ⟨xt X E,(f0.later E),(f1.later E),f2,f3,(fun _=>rfl),(fun _=>rfl),(fun _=>rfl),(fun h=>by obtain ⟨b,h1,h2,h3,h4⟩:=f7 h;exact ⟨b,h1,h2,fun h=>(h3 h).later E,fun h=>(h4 h).later E⟩),f8,f9⟩
   | 5,ho,hL,haf,hK =>
    simp only [List.getElem?_toArray,List.getElem?_cons_zero,List.getElem?_cons_succ,Option.some.injEq] at ho;subst ho
    (try dsimp only)
    have hst:L 6=true→False:=fun h=>(by have:=f8 h;rw [hL] at this;cases this);have E:=x1 wl (.cells #[.int .i64 0,.int .i64 0,.int .i64 0] 121);go_wp2_with fail;exact hK (fun jj=>if jj=8 then .pointer (some ⟨wl.heap.size,0,none⟩) else lx jj) _ ⟨xt X E,(f0.later E),(f1.later E),f2,f3,f4,f5,f6,(fun _=>⟨wl.heap.size,rfl,by have:=X.size;omega,fun _=>vec_made wl [.int .i64 0,.int .i64 0,.int .i64 0] _,fun h=>(hst h).elim⟩),(fun _=>rfl),f9⟩
   | 6,ho,hL,haf,hK =>
    simp only [List.getElem?_toArray,List.getElem?_cons_zero,List.getElem?_cons_succ,Option.some.injEq] at ho;subst ho
    (try dsimp only)
    have hmk:L 5=true:=haf ⟨5,.data⟩ (by simp) rfl;obtain ⟨b,eb',hb,hz,_⟩:=f7 hmk;have bx:=hz hL;rw [eb',f3 (haf ⟨1,.data⟩ (by simp) rfl)];have b0:=(bx 0 _ rfl).1;have b1:=(bx 1 _ rfl).1;have b2:=(bx 2 _ rfl).1;have fb0:=(bx 0 _ rfl).2;have fb1:=(bx 1 _ rfl).2;have fb2:=(bx 2 _ rfl).2;have hX:=Ext.setL (b:=b) (by omega) [.int .i64 y,.int .i64 mo,.int .i64 da] 0 X;have hB:=bx.put3 (.int .i64 y) (.int .i64 mo) (.int .i64 da);go_wp2_with fail;exact hK (fun jj=>if jj=8 then .pointer (some ⟨b,0,none⟩) else if jj=29 then .agg #[.int .i64 y,.int .i64 mo,.int .i64 da] else lx jj) _ ⟨hX,(Vec.farL (k:=b) (by omega) [.int .i64 y,.int .i64 mo,.int .i64 da] 0 f0),(Vec.farL (k:=b) (by omega) [.int .i64 y,.int .i64 mo,.int .i64 da] 0 f1),f2,(fun _=>rfl),f4,f5,f6,(fun _=>⟨b,rfl,hb,(fun h=>by cases h),fun _=>hB⟩),(fun _=>hmk),f9⟩
   | 7,ho,hL,haf,hK =>
    simp only [List.getElem?_toArray,List.getElem?_cons_zero,List.getElem?_cons_succ,Option.some.injEq] at ho;subst ho
    (try dsimp only)
    rw [f6 (haf ⟨4,.data⟩ (by simp) rfl)];go_wp2_with fail;exact hK (fun jj=>if jj=9 then .int .i64 sc else if jj=32 then .int .i64 sc else lx jj) _ ⟨X,f0,f1,f2,f3,f4,f5,(fun _=>rfl),f7,f8,(fun _=>rfl)⟩
   | k+8,ho,_,_,_=>simp at ho
  ·intro L lx wr hall hI;obtain ⟨XR,f0,f1,f2,f3,f4,f5,f6,f7,f8,f9⟩:=hI.out;clear hI;have G0:=f0;have G1:=f1;replace f2:=f2 (hall 0 (by simp));replace f3:=f3 (hall 1 (by simp));replace f4:=f4 (hall 2 (by simp));replace f5:=f5 (hall 3 (by simp));replace f6:=f6 (hall 4 (by simp));obtain ⟨bb,eb,lb,_,hz⟩:=f7 (hall 5 (by simp));have BN:=hz (hall 6 (by simp));replace f9:=f9 (hall 7 (by simp))
   (try dsimp only)
   rw [eb];rw [f2,f3,f4,f5,f6,f9];clear hall hz f0 f1 f2 f3 f4 f5 f6 f7 f8 f9;go_wp2_with fail;go_meet
   case rel=>exact ⟨⟨_,rfl,BN,xt Y5 XR⟩,rfl⟩
 case rest =>
  obtain ⟨⟨b4,rfl,V8,X8⟩,rfl⟩:=hcut
  rename World=>w8
  have XB:=x1 w8 (.cells #[.pointer none,.slice none 0 0] 80);have FB:=Lib.fresh_isBuilder 80 5 w8;obtain ⟨wb,hwb⟩:∃ q,w8.alloc (.cells #[.pointer none,.slice none 0 0] 80)=q:=⟨_,rfl⟩;rw [hwb] at XB FB;have V9:=V8.later XB;have l4:b4<w8.heap.size:=World.block_lt_of_cell? _ _ (vC3 V8).1;obtain ⟨B,hB⟩:∃ B,w8.heap.size=B:=⟨_,rfl⟩;rw [hB] at FB;have hmem:Hid (∀ m ∈ ps,m ∈ wordsT):=parts_mem _ _ _ HPP.out;have HAL:Hid (A.length≤240):=by
   show _≤_;rw [HE.out];have h:=dateT_len (y:=y) (mo:=mo) (da:=da) (sec:=sc) (by have:=HIN.out;omega) (by have:=HIN.out;omega) (by have:=HIN.out;omega) (by have:=HIN.out;omega) (by have:=HIN.out;omega) (by have:=HIN.out;omega) HS0.out.1 HS0.out.2 ps hmem.out;have:=HPS.out.2;omega
  have HS:Hid (BldD wb B B []∧Vec wb b4 [.int .i64 y,.int .i64 mo,.int .i64 da]∧Below B w8 wb∧Ext w wb∧∃ f qs,partsF f dt=some qs∧[]++dateT y mo da sc qs=A):=
   ⟨FB,V9,by rw [← hB];exact XB,xt X8 XB,_,ps,HPP.out,by rw [HE.out];rfl⟩
  have HB:=hid hB;have HLB:Hid (b4<B):=by show _<_;omega
  have HX8:=hid X8;clear V8 X8 XB FB V9 l4 hB CY CS CD HZ HV0 HV4 l0 l1 Y4 Y5 e5 HVD X1 HQ0 HQ1;go_wp2_with fail
  (try rw [hwb])
  (try rw [HB.out])
  clear hwb;go_loopw [0] (fun v wr=>∃ (R l:BLs),v=sV R∧R.length≤1000∧Hid (BldD wr B B l∧Vec wr b4 [.int .i64 y,.int .i64 mo,.int .i64 da]∧Below B w8 wr∧Ext w wr∧∃ f qs,partsF f R=some qs∧l++dateT y mo da sc qs=A)) (fun v _=>lenV v)
  case atStart=>exact ⟨dt,[],rfl,HDL.out,HS⟩
  case round =>
   clear HS;obtain ⟨R,l,rfl,hR,HS⟩:=hrel;obtain ⟨SB,SV,SX,SY,f,qs,hqs,hA⟩:=HS.out;by_cases hlt:R=[]
   ·subst hlt;have hq:=parts_nilD hqs;subst hq;have HL:Hid (l=A):=(by show _=_;rw [← hA];simp [dateT]);have CT:=hid (strD B B l wr SB (by have:=SX.size;have:=HB.out;omega));clear hqs hA SB SV HS;go_wp2_with fail;refine (CT.out).mono ?_;rintro r wz ⟨rfl,ez⟩;go_wp2_with fail;go_ret;exact ⟨retZ (by rw [HL.out]),xt HX8.out (by show Below w8.heap.size w8 wz;rw [HB.out];exact SX.trans ez)⟩
   ·obtain ⟨f',qs',rfl,hwm,hq',hw1,hw2⟩:=parts_cons hqs hlt;obtain ⟨m,hm⟩:∃ m,wordF R=m:=⟨_,rfl⟩;have CW:Hid (∀ W,Ext w W→Calls Tryz.prog 131 #[sV R] W fun e w'=>e=.returned (sV m)∧w'=W):=fun W X=>(by rw [← hm];exact wordI R W (HMC.out.2.2.later X));rw [hm] at hwm hq' hw1 hw2 hA;have CX:Hid (∀ W,Ext w W→Calls Tryz.prog 132 #[sV m,.agg #[.int .i64 y,.int .i64 mo,.int .i64 da],.int .i64 sc] W fun r w'=>r=.returned (sV (wordY y mo da sc m))∧Ext W w'):=fun W X=>dateWordI HRP.out y mo da sc m hwm w W HIT.out X HIN.out.1 HIN.out.2.1 HIN.out.2.2 HS0.out;have hA2:(l++wordY y mo da sc m)++dateT y mo da sc qs'=A:=(by rw [← hA,dateT,List.append_assoc]);obtain ⟨T,hT⟩:∃ T,wordY y mo da sc m=T:=⟨_,rfl⟩;rw [hT] at CX hA2;have hlT:l.length+T.length≤240:=by
     have h:=HAL.out;rw [← hA2,List.length_append,List.length_append] at h;omega
    obtain ⟨N,hN⟩:∃ N,R.length=N:=⟨_,rfl⟩;obtain ⟨K,hK⟩:∃ K,m.length=K:=⟨_,rfl⟩;rw [hK] at hw1 hw2 hq';rw [hN] at hw2 hR;have HQ:Hid (partsF f' (R.drop K)=some qs'∧(l++T)++dateT y mo da sc qs'=A):=⟨hq',hA2⟩;have E1:(⟨R.toArray⟩:ByteArray).extract K N=⟨(R.drop K).toArray⟩:=(by rw [← hN];exact ext_tail R K);have i1:(K:Int)≤(N:Int):=(by omega);have i0:R.isEmpty=false:=(by cases R with | nil=>exact absurd rfl hlt | cons _ _=>rfl);have i00:(R == [])=false:=(by cases R with | nil=>exact absurd rfl hlt | cons _ _=>rfl);have HLN:=hid (And.intro hN (And.intro hK (And.intro hw1 (And.intro hw2 (And.intro hR hlT)))));have HSS:=hid (And.intro SB (And.intro SV (And.intro SX SY)));clear hm hwm hq' hA hA2 hT hlT hqs hlt SB SV SX SY HS hw1 hR;go_wp2_with fail;refine (CW.out _ HSS.out.2.2.2).mono ?_;rintro r w1 ⟨rfl,hw1⟩;rw [hw1];clear hw1;have cv:=vC3 HSS.out.2.1;go_wp2_with fail;refine (CX.out _ HSS.out.2.2.2).mono ?_;rintro r w2 ⟨rfl,e2⟩;have CWr:=hid (writeD B B l T w2 (bld_laterD HSS.out.1 e2) (by have:=HLN.out.2.2.2.2.2;omega) (by have:=HSS.out.2.2.1.size;have:=HB.out;have:=e2.size;omega));have SB2:Below B wr w2:=e2.mono (by have:=HSS.out.2.2.1.size;have:=HB.out;omega);clear cv;go_wp2_with fail;refine (CWr.out).mono ?_;rintro r w3 ⟨rfl,B3,E3⟩;have XX:Below B w8 w3:=HSS.out.2.2.1.trans (SB2.trans E3);have HS3:Hid (BldD w3 B B (l++T)∧Vec w3 b4 [.int .i64 y,.int .i64 mo,.int .i64 da]∧Below B w8 w3∧Ext w w3∧∃ f qs,partsF f (R.drop K)=some qs∧(l++T)++dateT y mo da sc qs=A):=
     ⟨B3,vec_sameD (HSS.out.2.1.later e2) (E3.block b4 (by have:=HLB.out;omega)),XX,xt HX8.out (by show Below w8.heap.size w8 w3;rw [HB.out];exact XX),_,_,HQ.out.1,HQ.out.2⟩
    clear B3 E3 CWr SB2 e2 CW CX XX;go_wp2_with fail;go_roundw
    case rel=>exact ⟨R.drop K,l++T,rfl,by rw [List.length_drop];have:=HLN.out;omega,HS3⟩
    case measure=>show (R.drop K).length<R.length;rw [List.length_drop];have:=HLN.out;omega
theorem store_to {P:Program} {ops:Array Oper} {rest:List Oper} {op:Oper} {a:Act} {w w':World} {Q:Exit→Act→World→Prop} (hgd:op.guard=none) (ty:TypeId) (x y:Operand) (ho:op.op=.store ty x y)
  (b o:Nat) (cells:Array Value) (hx:a.eval x=.pointer (some ⟨b,o,none⟩)) (hy:a.eval y=.agg cells)
  (ht:w.there b o cells.size) (hi:(P.info? ty).map (·.size)=some cells.size) (h1:cells.all (·.oneCell')=true) (e:w.setCells b o cells.toList=w')
  (h:wpList P ops Q rest (a.put op.dst undef) w'):wpList P ops Q (op :: rest) a w:=
 wpList_store_mid hgd ty x y ho b o cells hx hy ht hi h1 (by rw [e];exact h)
theorem Ext.setCells {a:World} {b:Nat} (hb:a.heap.size≤b):∀ (vs:List Value) (o:Nat) (w:World),Ext a w→Ext a (w.setCells b o vs)
 | [],_,_,h=>h
 | v :: vs,o,_,h=>Ext.setCells hb vs (o+1) _ (xset (p:=⟨b,o,none⟩) h hb v)
def setsN (M:List Value):Nat→List Value→List Value
 | _,[]=>M
 | o,u :: us=>setsN (M.set o u) (o+1) us
theorem vec_setCellsN {g:Nat}:∀ (us:List Value) (o:Nat) (w:World) (M:List Value),Vec w g M→o+us.length≤M.length→Vec (w.setCells g o us) g (setsN M o us)
 | [],_,_,_,V,_=>V
 | u :: us,o,w,M,V,h=>by
  rw [List.length_cons] at h;exact vec_setCellsN us (o+1) _ (M.set o u) (V.put o (by omega) u) (by rw [List.length_set];omega)
theorem vec_thereN {w:World} {g o k:Nat} {M:List Value} (V:Vec w g M) (h:o+k≤M.length):w.there g o k:=fun j hj=>by
 obtain ⟨u,hu⟩:∃ u,M[o+j]?=some u:=⟨_,List.getElem?_eq_getElem (by omega)⟩;exact ⟨by rw [(V _ u hu).1];rfl,(V _ u hu).2⟩
theorem grown_setCells (g:Nat):∀ (us:List Value) (o:Nat) (w:World),w.grownBy (w.setCells g o us) (some g)
 | [],_,w=>⟨rfl,rfl,rfl,Nat.le_refl _,fun _ _ _=>rfl⟩
 | u :: us,o,w=>by
  have ih:=grown_setCells g us (o+1) (w.setCell ⟨g,o,none⟩ u);refine ⟨ih.os,ih.tape,ih.output,?_,fun k hk hne=>?_⟩
  ·have:=ih.size;rw [World.size_setCell] at this;exact this
  ·exact (ih.block k (by rw [World.size_setCell];exact hk) hne).trans (Below.heap_setCell _ _ _ _ (fun e=>hne (by rw [e])))
end Go.Proofs.YtjlojlgdkfpcdaaGreatDoor

