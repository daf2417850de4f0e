/-
  Several texts in one: Sd2, Sb6, Rh, Rk.
-/
import Derived.Test.YtjlojlgdkfpcdaaGreatDoorMg26
import Derived.Test.YtjlojlgdkfpcdaaGreatDoorMg34
import Derived.Test.YtjlojlgdkfpcdaaGreatDoorSheld
import Derived.Sort.OwnSorted
import Derived.Test.YtjlojlgdkfpcdaaGreatDoorMg20
import Derived.Test.YtjlojlgdkfpcdaaGreatDoorMg1
set_option maxRecDepth 8000
set_option maxHeartbeats 4000000
namespace Go.Proofs.YtjlojlgdkfpcdaaGreatDoor
open Go.RowKit
theorem fJoinC:layJoin_ren.f 156=21:=by kernel_rfl
theorem joinC10 (v:Value) (l:List BL) (sep:BL) (base:Nat) (w:World) (h:OwnT w base v l) (hn:l.length<=1000000) (hlen:(Lib.join l sep).length<=100000000) :
  Calls Tryz.prog 21 #[v,sV sep] w fun e w'=>e=.returned (sV (Lib.join l sep))/\Ext w w':=by
 rcases h.2 with ⟨rfl,h0⟩ | ⟨g,cap,cur,rfl,hb,hg,hc,_⟩
 ·have hl:l=[]:=List.length_eq_zero_iff.1 h0;subst hl;have q:=Any.strings_Join_none layJoin zJ7 none 0 ⟨sep.toArray⟩ w;rw [fJoinC] at q;exact q.mono fun e w' ⟨he,hw⟩=>⟨he,hw ▸ xr _⟩
 ·have hlt:g<w.heap.size:=by
   rcases Nat.lt_or_ge g w.heap.size with h' | h'
   ·exact h'
   ·rw [Array.getElem?_eq_none h'] at hg;cases hg
  have hm:(l.map fun x=>(⟨x.toArray⟩:ByteArray)).map (·.data.toList)=l:=by rw [List.map_map];simp [Function.comp_def]
  have hs:(⟨sep.toArray⟩:ByteArray).data.toList=sep:=rfl;have q:=Any.strings_Join layJoin zJ7 g 0 cap (l.map fun x=>(⟨x.toArray⟩:ByteArray)) ⟨sep.toArray⟩ w (fun j x hx=>?_) hlt (by rw [List.length_map];omega) (by rw [List.length_map];exact hc) (by rw [hm];show (Lib.join l sep).length<=_;omega)
  ·rw [fJoinC,hm,List.length_map] at q;exact q
  ·rw [List.getElem?_map] at hx;obtain ⟨y,hy,rfl⟩:=Option.map_eq_some_iff.1 hx;have:=h.cells (g:=g) rfl j (sV y) (by rw [List.getElem?_map,hy];rfl);rw [show (⟨g,0,none⟩:Addr).add j=⟨g,0+j,none⟩ by unfold Addr.add;split <;> simp_all] at this;exact this
theorem fRev10:zIZ.f 17=198:=by kernel_rfl
theorem zLC (w:World):Sort.grow w #[]=w:=by
 simp [Sort.grow]
theorem revC (v:Value) (l:List BL) (base:Nat) (w w0:World) (h:OwnT w base v l) (hl:l ≠ []) (hn:l.length<=1000000) (X:Ext w0 w) (hb0:w0.heap.size<=base) :
  Calls Tryz.prog 198 #[v] w fun e w'=>e=.returned (.tuple #[])/\OwnT w' base v l.reverse/\Ext w0 w':=by
 rcases h.2 with ⟨rfl,h0⟩ | ⟨g,cap,cur,rfl,hb,hg,hc,hm,hs,hv⟩
 ·exact absurd (List.length_eq_zero_iff.1 h0) hl
 ·have q:=Any.slices_Reverse_string layRev g 0 cap l w (fun j hj=>by
   rw [Nat.zero_add];have hj':j<l.length:=by simpa using hj
   refine ⟨?_,h.frozenAt j⟩;rw [h.cellAt j (by rw [Nat.mul_one];exact hj'),List.getElem?_map];simp [hj']) (by omega)
  rw [fRev10] at q;refine q.mono fun e w' ⟨he,n,hw⟩=>⟨he,?_,?_⟩
  ·have hO:=ownsRow_sorted (n:=n) (os:=#[]) (ss:=l) (ts:=l.reverse) (by simp) hb hg hc hm hs;rw [zLC,<- hw] at hO;show World.ownsRow _ _ _ _ _ _ _;rw [List.length_reverse];exact hO
  ·have hG:=grownBy_sorted (w:=w) (g:=g) (n:=n) (os:=#[]) l.reverse.toArray;rw [zLC,<- hw] at hG;exact X.grown hG X.size (fun q hq=>by cases hq;omega)
def zIB (G:List BLs):BLs:=(G.reverse.map (44 :: ·)).flatten
theorem zOO (G:List BLs) (x:BLs):zIB (G++[x])=44 :: (x++zIB G):=by
 unfold zIB;rw [List.reverse_append,List.reverse_singleton,List.singleton_append,List.map_cons,List.flatten_cons];rfl
theorem zL5:∀ (s:BLs) (l:List BLs),Lib.join (s :: l) [44]=s++(l.map (44 :: ·)).flatten
 | s,[]=>by simp [Lib.join]
 | s,x :: r=>by
  have h:=zL5 x r;unfold Lib.join at h ⊢;rw [List.intercalate_cons_cons,h,List.map_cons,List.flatten_cons];simp
theorem zQX:∀ (G:List BLs),(∀ x ∈ G,x.length=3)->(zIB G).length=4 * G.length:=by
 intro G h;unfold zIB;have h2:∀ x ∈ G.reverse,x.length=3:=fun x hx=>h x (List.mem_reverse.1 hx);have h3:G.reverse.length=G.length:=List.length_reverse;rw [<- h3];generalize G.reverse=H at h2;clear h
 induction H with
 | nil=>rfl
 | cons x r ih =>
  rw [List.map_cons,List.flatten_cons,List.length_append,List.length_cons,h2 x (by simp),ih (fun y hy=>h2 y (by simp [hy])),List.length_cons];omega
theorem zVQ (s:BLs) (w:World) (hs:s.length<=10000) :
  Calls Tryz.prog 139 #[sV s] w fun e w'=>e=.returned (sV (grpZ s.length s))/\Ext w w':=by
 obtain ⟨R,hR⟩:=nm (grpZ s.length s);have H0:Hid (∃ f,s.length<=f/\grpZ f s++zIB []=R):=⟨s.length,Nat.le_refl _,by rw [hR];simp [zIB]⟩;rw [hR];clear hR;obtain ⟨B,hB⟩:=nm (w.heap.size);have HB:Hid (w.heap.size=B):=hB;have T0:=hid (zJS w B);have X0:=hid (xr w);clear hB;go_enter Tryz.func139,Tryz.ntmps139;go_wp2_with fail;go_loopw [0,3] (fun sv ov wr=>∃ (S:BLs) (G:List BLs),sv=sV S/\3 * G.length+S.length<=10000/\Hid (∃ f,S.length<=f/\grpZ f S++zIB G=R)/\Hid (OwnT wr B ov G)/\Hid (∀ x ∈ G,x.length=3)/\Hid (Ext w wr)) (fun sv _ _=>lenV sv)
 case atStart=>exact ⟨s,[],rfl,by simp;omega,H0,T0,(fun x hx=>by cases hx),X0⟩
 case round =>
  clear H0 T0 X0;obtain ⟨S,G,rfl,hb,HO,OT,HG3,X⟩:=hrel;obtain ⟨n,hn⟩:=nm (S.length);have HN:=hid hn;rw [hn] at hb;obtain ⟨p5,q5,hv,hq5⟩:=zBG OT.out;subst hv;have HBL:Hid (∀ r,(Value.slice p5 G.length q5).ownBlock=some r->B<=r/\r<wr.heap.size):=fun r hr=>zGC OT.out r hr;have hgl:G.length<=4000:=by omega
  have HBb:=hid hb;by_cases h3:3<n
  ·obtain ⟨f,hf,hg⟩:=HO.out;obtain ⟨f',hf',hg'⟩:=zLB f S (by omega) hf;obtain ⟨k,hkk⟩:=nm (n - 3);have hk:IntKind.i64.wrap ((n:Int) - 3)=(k:Int):=by rw [IntKind.wrap_i64] <;> omega
   rw [hn,hkk] at hg' hf';have i1:(n:Int) > 3:=by omega
   have i2:(3:Int)<(n:Int):=by omega
   have i3:k<=n:=by omega
   have i4:(k:Int)<=(n:Int):=by omega
   obtain ⟨D,hD⟩:=nm (S.drop k);have hD3:D.length=3:=by rw [<- hD,List.length_drop,hn];omega
   have E1:(⟨S.toArray⟩:ByteArray).extract k n=⟨D.toArray⟩:=by rw [<- hn,<- hD];exact zD7 S k
   have E2:(⟨S.toArray⟩:ByteArray).extract 0 k=⟨(S.take k).toArray⟩:=zD8 S k;have HZ:Hid (∃ f,(S.take k).length<=f/\grpZ f (S.take k)++zIB (G++[D])=R):=⟨f',by rw [List.length_take];omega,by rw [zOO,<- hg,hg',hD];simp⟩;have HZ3:Hid (∀ x ∈ G++[D],x.length=3):=fun x hx=>by
    rcases List.mem_append.1 hx with h | h
    ·exact HG3.out x h
    ·rw [List.mem_singleton.1 h];exact hD3
   have hM:(S.take k).length=k:=by rw [List.length_take];omega
   have HM:=hid hM;have HK:Hid (k+3=n):=by show _=_;omega
   obtain ⟨K,hKK⟩:=nm (S.take k);rw [hKK] at E2 HZ HM;obtain ⟨g,hgg⟩:=nm (wr.heap.size);have HGS:=hid hgg;have HD3:=hid hD3;clear hf hg hg' hf' hkk hD hD3 hM hKK hb hgg;obtain ⟨inf,hi,hz,hz1,hz2⟩:=zVM;go_wp2_with (at_builtin;refine wpList_append_own _ rfl _ _ 51 rfl B 9 inf (.string ByteArray.empty) 1 16 Tryz.underlying51 hi hz hz1 hz2 rfl (by decide) _ _ _ rfl (OT.out.alloc _) ⟨wr.heap.size,0,none⟩ 1 1 [sV D] rfl rfl (World.news_of_block (heap_alloc_new wr (.cells [sV D].toArray 9))) (by simp [Value.oneCell']) (by simp only [maxLen];omega) (by omega) (by have:=X.out.size;have:=HB.out;simp;omega) ?_);intro v7 wC ownC gC _;have OC:Hid (OwnT wC B v7 (G++[D])):=by
    show World.ownsRow _ _ _ _ _ _ _;rw [List.map_append,List.length_append];exact ownC
   have XA:=xa X.out (.cells [sV D].toArray 9);have XC:Hid (Ext w wC):=XA.grown gC XA.size (fun q hq=>by have:=(HBL.out q hq).1;have:=HB.out;omega);obtain ⟨p7,q7,hv7,hq7⟩:=zBG OC.out;subst hv7;clear gC ownC XA hi hz hz1 hz2 OT X HBL;go_wp2_with fail;go_roundw
   case rel=>exact ⟨K,G++[D],rfl,by rw [List.length_append];have:=HM.out;have:=HK.out;have:=HBb.out;simp;omega,HZ,OC,HZ3,XC⟩
   case measure=>show K.length<S.length;rw [HM.out,HN.out];have:=HK.out;omega
  ·have HE:Hid (S++zIB G=R):=by
    obtain ⟨f,hf,hg⟩:=HO.out;rw [zNV f S (by omega)] at hg;exact hg
   have i1:¬ (n:Int) > 3:=by omega
   have i2:¬ (3:Int)<(n:Int):=by omega
   have HJ:Hid (Lib.join (G++[S]).reverse [44]=R):=by
    show _=_;rw [<- HE.out,List.reverse_append,List.reverse_singleton,List.singleton_append,zL5];rfl
   have HJL:Hid (R.length<=100000):=by
    show _<=_;rw [<- HE.out,List.length_append,zQX G HG3.out,HN.out];omega
   clear hb;obtain ⟨inf,hi,hz,hz1,hz2⟩:=zVM;go_wp2_with (at_builtin;refine wpList_append_own _ rfl _ _ 51 rfl B 9 inf (.string ByteArray.empty) 1 16 Tryz.underlying51 hi hz hz1 hz2 rfl (by decide) _ _ _ rfl (OT.out.alloc _) ⟨wr.heap.size,0,none⟩ 1 1 [sV S] rfl rfl (World.news_of_block (heap_alloc_new wr (.cells [sV S].toArray 9))) (by simp [Value.oneCell']) (by simp only [maxLen];omega) (by omega) (by have:=X.out.size;have:=HB.out;simp;omega) ?_);intro v7 wC ownC gC _;have OC:Hid (OwnT wC B v7 (G++[S])):=by
    show World.ownsRow _ _ _ _ _ _ _;rw [List.map_append,List.length_append];exact ownC
   have XA:=xa X.out (.cells [sV S].toArray 9);have XC:Hid (Ext w wC):=XA.grown gC XA.size (fun q hq=>by have:=(HBL.out q hq).1;have:=HB.out;omega);have CV:=hid (revC v7 (G++[S]) B wC w OC.out (by simp) (by simp;omega) XC.out (by have:=HB.out;omega));clear gC ownC XA hi hz hz1 hz2 OT X HBL;go_wp2_with fail;refine CV.out.mono ?_;rintro e wD ⟨rfl,OD,XD⟩;have CJ:=hid (joinC10 v7 (G++[S]).reverse [44] B wD OD (by simp;omega) (by rw [HJ.out];have:=HJL.out;omega));rw [HJ.out] at CJ;clear CV OD OC;go_wp2_with fail;refine CJ.out.mono ?_;rintro e wE ⟨rfl,XE⟩;go_wp2_with fail;go_ret;exact ⟨rfl,xt XD XE⟩
theorem idx_str {R:BLs} {L:Nat} {c:UInt8} (h:R[L]?=some c):∀ (q:L<(⟨R.toArray⟩:ByteArray).size),(⟨R.toArray⟩:ByteArray)[L]'q=c:=by
 intro q;show R.toArray[L]=c;simp only [List.getElem_toArray];exact (List.getElem?_eq_some_iff.1 h).2
theorem zQP (s:BLs) (w:World) (hs:s.length<=1000000) :
  Calls Tryz.prog 166 #[sV s,.int .u8 48] w fun e w'=>e=.returned (sV (zF2 s))/\w'=w:=by
 obtain ⟨Z,hZ⟩:=nm (zF2 s);have HZ:Hid (rstL 0 s=Z):=by show _=_;rw [<- hZ];rfl
 rw [hZ];clear hZ;go_enter Tryz.func166,Tryz.ntmps166;go_wp2_with fail;go_loopw [0] (fun v wr=>∃ R:BLs,v=sV R/\R.length<=1000000/\Hid (rstL 0 R=Z)/\wr=w) (fun v _=>lenV v)
 case atStart=>exact ⟨s,rfl,hs,HZ,rfl⟩
 case round =>
  obtain ⟨R,rfl,hR,HRZ,hwr⟩:=hrel;have hwr:=hwr.symm;subst hwr;by_cases hlt:0<R.length
  ·obtain ⟨K,c',hKc,hK⟩:=zR5 hlt;obtain ⟨n',hn⟩:=nm (R.length);obtain ⟨L,hL⟩:=nm (K.length);have hnL:n'=L+1:=by rw [<- hn,hKc,<- hL];simp
   rw [hn] at hlt hR;have i1:(n':Int) > 0:=by omega
   have i2:0<(n':Int):=by omega
   have wl:IntKind.i64.wrap ((n':Int) - 1)=(L:Int):=by rw [IntKind.wrap_i64] <;> omega
   have i3:L<n':=by omega
   have i4:(L:Int)<(n':Int):=by omega
   have i5:L<=n':=by omega
   have i6:(L:Int)<=(n':Int):=by omega
   have hc1:R[L]?=some c':=by rw [hKc,<- hL];simp
   have E1:(⟨R.toArray⟩:ByteArray).extract 0 L=⟨K.toArray⟩:=by rw [zD8,hKc,<- hL];simp
   have hg:=idx_str hc1;have HKC:=hid (And.intro hKc (And.intro hnL (And.intro hL hK)));have HRL:=hid hR;clear hKc hlt hnL hL hc1 hR hK;by_cases hc:c'=48
   ·have h48:((c'.toNat:Int) == 48)=true:=(by rw [hc];rfl);have HC48:=hid hc;clear hc;go_wp2_with fail;go_roundw
    case rel=>exact ⟨K,rfl,by have:=HKC.out;have:=HRL.out;omega,hid (by rw [<- HRZ.out,HKC.out.1,HC48.out,zN9 HKC.out.2.2.2]),by first | rfl | trivial⟩
    case measure=>show K.length<R.length;have:=HKC.out;omega
   ·have h48:((c'.toNat:Int) == 48)=false:=by
     rw [beq_eq_false_iff_ne];intro h;exact hc (UInt8.toNat_inj.1 (by have:(48:UInt8).toNat=48:=rfl;omega))
    have HC48:=hid hc;clear hc;go_wp2_with fail;go_ret;exact ⟨retZ (by rw [<- HRZ.out,HKC.out.1,zNA HKC.out.2.2.2 HC48.out]),by first | rfl | trivial⟩
  ·obtain ⟨n',hn⟩:=nm (R.length);have HN2:=hid hn;have i1:¬ (n':Int) > 0:=by omega
   have i2:¬ 0<(n':Int):=by omega
   have i3:(n':Int)<=0:=by omega
   have i4:n'=0:=by omega
   have HLT:=hid hlt;clear hlt;go_wp2_with fail;go_ret;exact ⟨retZ (by rw [<- HRZ.out,zKR (by have:=HLT.out;omega)]),by first | rfl | trivial⟩
theorem zOF (s:BLs) (w:World) (hs:s.length<=1000000) :
  Calls Tryz.prog 140 #[sV s,sV [48]] w fun e w'=>e=.returned (sV (zF2 s))/\w'=w:=by
 have CT:Hid (∀ W,Calls Tryz.prog 166 #[sV s,.int .u8 48] W fun e w'=>e=.returned (sV (zF2 s))/\w'=W):=fun W=>zQP s W hs;by_cases h0:s=[]
 ·subst h0;show Calls _ _ _ _ fun e w'=>e=.returned (sV [])/\w'=w;go_enter Tryz.func140,Tryz.ntmps140;go_wp2_with fail;go_ret;exact ⟨rfl,rfl⟩
 ·obtain ⟨T,hT⟩:=nm (zF2 s);rw [hT] at CT ⊢;have hz1:s.isEmpty=false:=by cases s with | nil=>exact absurd rfl h0 | cons _ _=>rfl
  have hi:∀ (q:0<(⟨#[48]⟩:ByteArray).size),(⟨#[48]⟩:ByteArray)[0]'q=48:=fun _=>rfl;clear hT h0;go_enter Tryz.func140,Tryz.ntmps140;go_wp2_with (go_at_call 166;refine (CT.out _).mono ?_;rintro r w' ⟨rfl,rfl⟩);go_ret;exact ⟨rfl,rfl⟩
section
variable {P:Program} {ops:Array Oper} {Q:Exit->Act->World->Prop}
def rhOk (md:Region.Mode) (ops:Array Oper):Bool:=
 (List.range ops.size).all fun i =>
  match ops[i]? with
  | none=>true
  | some o=>o.after.all fun e=>!Region.binds md e || decide (e.on<i)
theorem zRF {md:Region.Mode} (h:rhOk md ops=true) {i:Nat} {o:Oper} (hi:ops[i]?=some o):∀ e ∈ o.after,Region.binds md e=true->e.on<i:=by
 have hlt:i<ops.size:=by
  rcases Nat.lt_or_ge i ops.size with h' | h'
  ·exact h'
  ·rw [Array.getElem?_eq_none h'] at hi;cases hi
 have:=(List.all_eq_true.1 h) i (List.mem_range.2 hlt);rw [hi] at this;intro e he hb;have h2:=(Array.all_eq_true_iff_forall_mem.1 this) e he;rw [hb] at h2;simpa using h2
theorem zJE {i:Nat} {o:Oper} {K:Act->World->Prop} {a:Act} {w:World} (ho:ops[i]?=some o)
  (h:if Region.wanted o (yielded ops a.tmps)=true then wpList P #[{ o with guard:=none }] (Exit.then K Q) [{ o with guard:=none }] a w else K (a.put o.dst undef) w):wpOp P ops Q i K a w:=by
 unfold wpOp;simp only [ho]
 split
 ·next hw =>
  rw [if_pos hw] at h;simp only [wpList,Region.wanted,if_true] at h
  rcases h with h | ⟨h1,h2⟩
  ·left;unfold Oper.wp at *;have e:execOp a.eval { o with guard:=none }=execOp a.eval o:=rfl;rw [e] at h;generalize (execOp a.eval o).run P w=r at *;cases r with
   | ok n w' =>
    cases n
    case enter f args =>
     refine Calls.mono h fun e w'' he=>?_;cases e <;> exact he
    all_goals exact h
   | halt x w'=>cases x <;> exact h
  ·exact .inr ⟨h1,h2⟩
 ·next hw =>
  rw [if_neg hw] at h;exact h
theorem zLR {md:Region.Mode} (hc:rhOk md ops=true) {listed:Array Bool} (hsz:listed.size=ops.size) (hr:Region.ready md ops listed=[]):∀ i,i<ops.size->listed.getD i false=true:=by
 intro i
 induction i using Nat.strongRecOn with
 | ind i ih =>
  intro hi;cases hl:listed.getD i false with
  | true=>rfl
  | false =>
   exfalso;have hlt:i<listed.size:=by omega
   have h1:listed.getD i true=false:=by
    rw [Array.getD_eq_getD_getElem?,Array.getElem?_eq_getElem hlt] at hl ⊢;exact hl
   have ho:ops[i]?=some ops[i]:=Array.getElem?_eq_getElem hi;have hlow:=zRF hc ho;have:i ∈ Region.ready md ops listed:=mem_ready.2 ⟨h1,_,ho,fun e he hb=>ih e.on (hlow e he hb) (Nat.lt_trans (hlow e he hb) hi)⟩;rw [hr] at this;cases this
theorem zF1 {X:Type} {id:Nat} {a:Act} {w:World} (F:X->Act) (I:(Nat->Bool)->X->World->Prop) (hm:P.follows .mixedOrders=true) (hc:rhOk .any ops=true)
  (x0:X) (h0:a=F x0) (hI:I (fun _=>false) x0 { w with drawn:=w.drawn+1 })
  (step:∀ L x w i o (K:Act->World->Prop),(∀ x' w',I (fun j=>if j=i then true else L j) x' w'->K (F x') w')->ops[i]?=some o->L i=false->(∀ e ∈ o.after,Region.binds .any e=true->L e.on=true)->I L x w ->
   if Region.wanted o (yielded ops (F x).tmps)=true then wpList P #[{ o with guard:=none }] (Exit.then K Q) [{ o with guard:=none }] (F x) w else K ((F x).put o.dst undef) w)
  (fin:∀ L x w,(∀ j,j<ops.size->L j=true)->I L x w->Q .normal (F x) w):(Code.region id ops true).wp P Q a w:=by
 refine zFE (fun listed a w=>listed.size=ops.size/\∃ x,a=F x/\I (fun j=>listed.getD j false) x w) hm ?_ ?_ ?_
 ·refine ⟨by simp,x0,h0,?_⟩;have e:(fun j=>(Array.replicate ops.size false).getD j false)=fun _=>false:=by
   funext j
   rw [Array.getD_eq_getD_getElem?]
   rcases Nat.lt_or_ge j ops.size with h' | h'
   ·rw [Array.getElem?_eq_getElem (by simpa using h')];simp
   ·rw [Array.getElem?_eq_none (by simpa using h')];simp
  rw [e];exact hI
 ·rintro listed a w i o ⟨hs,x,rfl,hx⟩ hi ho;obtain ⟨hun,o',ho',hall⟩:=mem_ready.1 hi;have:o'=o:=by rw [ho] at ho';exact (Option.some.inj ho').symm
  subst this;have hlt:i<listed.size:=by
   rcases Nat.lt_or_ge i listed.size with h' | h'
   ·exact h'
   ·rw [Array.getD_eq_getD_getElem?,Array.getElem?_eq_none h'] at hun;cases hun
  have hun':listed.getD i false=false:=by
   rw [Array.getD_eq_getD_getElem?,Array.getElem?_eq_getElem hlt] at hun ⊢;exact hun
  refine wpOp_mono ?_ (zJE ho (step _ x w i o' (fun a' w'=>∃ x',a'=F x'/\I (fun j=>if j=i then true else listed.getD j false) x' w') (fun x' w' h=>⟨x',rfl,h⟩) ho hun' hall hx));rintro a' w' ⟨x',rfl,hx'⟩;refine ⟨by simp [hs],x',rfl,?_⟩;have e:(fun j=>(listed.setIfInBounds i true).getD j false)=fun j=>if j=i then true else listed.getD j false:=by
   funext j
   by_cases hj:j=i
   ·subst hj;rw [if_pos rfl,Array.getD_eq_getD_getElem?,Array.getElem?_setIfInBounds_self_of_lt hlt];rfl
   ·rw [if_neg hj,getD_set_ne false (fun e=>hj e.symm)]
  rw [e];exact hx'
 ·rintro listed a w hr ⟨hs,x,rfl,hx⟩;exact fin _ x w (zLR hc hs hr) hx
end
section
variable {P:Program} {ops:Array Oper} {Q:Exit->Act->World->Prop}
def zFC (ops:Array Oper) (L:Nat->Bool):Prop:=∀ i o,ops[i]?=some o->L i=true->∀ e ∈ o.after,Region.binds .any e=true->L e.on=true
def zUT (ops:Array Oper):Nat->List Nat->Bool
 | _,[]=>true
 | i,j :: l=>(match ops[i]? with
  | none=>false
  | some o=>o.after.any fun e=>Region.binds .any e && e.on == j) && zUT ops j l
theorem zFC.path {L:Nat->Bool} (h:zFC ops L):∀ (l:List Nat) (i:Nat),L i=true->zUT ops i l=true->L ((i :: l).getLast (by simp))=true
 | [],_,hi,_=>hi
 | j :: l,i,hi,hp=>by
  simp only [zUT,Bool.and_eq_true] at hp;obtain ⟨h1,h2⟩:=hp;have hj:L j=true:=by
   cases ho:ops[i]? with
   | none=>rw [ho] at h1;cases h1
   | some o =>
    rw [ho] at h1;obtain ⟨e,he,hb⟩:=Array.any_eq_true'.1 h1;simp only [Bool.and_eq_true,beq_iff_eq] at hb;rw [<- hb.2];exact h i o ho hi e he hb.1
  have:=zFC.path h l j hj h2
  rwa [List.getLast_cons (by simp)]
theorem zFC.bars {L:Nat->Bool} (h:zFC ops L) {i j:Nat} (l:List Nat) (hj:L j=false) (hp:zUT ops i l=true) (e:(i :: l).getLast (by simp)=j):L i=false:=by
 cases hi:L i with
 | false=>rfl
 | true =>
  have:=h.path l i hi hp;rw [e,hj] at this;cases this
theorem zAS {X:Type} {id:Nat} {a:Act} {w:World} (F:X->Act) (I:(Nat->Bool)->X->World->Prop) (hm:P.follows .mixedOrders=true) (hc:rhOk .any ops=true)
  (x0:X) (h0:a=F x0) (hI:I (fun _=>false) x0 { w with drawn:=w.drawn+1 })
  (step:∀ L x w i o (K:Act->World->Prop),(∀ x' w',I (fun j=>if j=i then true else L j) x' w'->K (F x') w')->ops[i]?=some o->L i=false->(∀ e ∈ o.after,Region.binds .any e=true->L e.on=true)->I L x w->zFC ops L ->
   if Region.wanted o (yielded ops (F x).tmps)=true then wpList P #[{ o with guard:=none }] (Exit.then K Q) [{ o with guard:=none }] (F x) w else K ((F x).put o.dst undef) w)
  (fin:∀ L x w,(∀ j,j<ops.size->L j=true)->I L x w->Q .normal (F x) w):(Code.region id ops true).wp P Q a w:=by
 refine zF1 F (fun L x w=>I L x w/\zFC ops L) hm hc x0 h0 ⟨hI,fun i o _ h=>by cases h⟩ ?_ (fun L x w h hi=>fin L x w h hi.1);intro L x w i o K hK ho hL haf hi;refine step L x w i o K (fun x' w' h=>hK x' w' ⟨h,?_⟩) ho hL haf hi.1 hi.2;intro j oj hj hLj e he hb;show (if e.on=i then true else L e.on)=true
 split
 ·rfl
 ·by_cases hji:j=i
  ·subst hji;rw [ho] at hj;cases hj;exact haf e he hb
  ·have:L j=true:=by simpa [hji] using hLj
   exact hi.2 j oj hj this e he hb
end
end Go.Proofs.YtjlojlgdkfpcdaaGreatDoor

