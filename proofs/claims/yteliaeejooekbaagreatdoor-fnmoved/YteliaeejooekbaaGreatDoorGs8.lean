import Derived.Test.YteliaeejooekbaaGreatDoorMg31
import Derived.Test.YteliaeejooekbaaGreatDoorMg13
set_option maxRecDepth 8000
set_option maxHeartbeats 16000000
namespace Go.Proofs.YteliaeejooekbaaGreatDoor
open Go.RowKit
def zFY (f:List NT) (w:World) (e:Ending) (w':World):Prop:=
 Ext w w'/\∃ (x:NT) (pk:Option Addr) (nk ck:Nat),e=.returned (.tuple #[x.ex (.slice pk nk ck),.bool (zAZ NT.good f)])/\(zAZ NT.good f=true->∃ t,zB5 41 f=some (t,[])/\x=t.n/\KidsS w' (fun k=>w.heap.size<=k/\k<w'.heap.size) (.slice pk nk ck) t.kids)
def zVM (f:List NT) (w1 w2:World) (x:NT) (s:Value) (A:Int):Prop:=
 (A=(f.length:Int)/\∃ t,zB5 41 f=some (t,[])/\x=t.n/\KidsS w2 (fun k=>w1.heap.size<=k/\k<w2.heap.size) s t.kids)\/(A ≠ (f.length:Int)/\zAZ NT.good f=false)
theorem zP9 {f:List NT} {w1 w2:World} {e:Ending} (hf:1<=f.length) (h:zDO f 41 f w1 e w2) :
  Ext w1 w2/\∃ (x:NT) (pk:Option Addr) (nk ck:Nat) (A:Int),e=.returned (.tuple #[x.ex (.slice pk nk ck),iQ A])/\zVM f w1 w2 x (.slice pk nk ck) A:=by
 obtain ⟨X,h⟩:=h;refine ⟨X,?_⟩
 rcases h with ⟨t,r,s,h1,rfl,h3⟩ | ⟨h1,rfl⟩
 ·obtain ⟨pk,ck,hs,_⟩:=h3.slice;subst hs;refine ⟨t.n,pk,_,ck,_,rfl,?_⟩;have hc:=zHJ _ _ _ _ h1;cases r with
  | nil=>exact .inl ⟨by rw [List.length_nil,Nat.sub_zero],t,h1,rfl,h3⟩
  | cons a r =>
   refine .inr ⟨by rw [List.length_cons];omega,zDM (fun t' h'=>?_)⟩;rw [h1] at h';cases h'
 ·exact ⟨⟨0,[],false,0,0,0,0,false,false,0,0,false,false,0⟩,none,0,0,-1,rfl,.inr ⟨by omega,zDM (fun t' h'=>by rw [h1] at h';cases h')⟩⟩
theorem zU6 (v:Value) (f:List NT) (w:World) (h:zAT w v f) (hx:∀ x ∈ f,x.t.length<=1048576) :
  Calls Tryz.prog 39 #[v] w fun e w'=>zFY f w e w':=by
 obtain ⟨p,cap,rfl,hc,hrow⟩:=h;obtain ⟨wa,ha,X1,V1,-⟩:=zAD w [iQ 0,.string ⟨#[]⟩,.bool false,iQ 0,iQ 0,iQ 0,iQ 0,.bool false,.bool false,iQ 0,iQ 0,.bool false,.bool false,iQ 0,.slice none 0 0] 77;by_cases hb:f.length=0\/300<f.length
 ·have HG:Hid (zAZ NT.good f=false):=zC3 hb;obtain ⟨n,hn⟩:=nm (f.length);rw [hn] at hb ⊢;have VT:=V1.there;have VR:=World.rangeAt_setCells_same wa w.heap.size 0 [iQ 0,.string ⟨#[]⟩,.bool false,iQ 0,iQ 0,iQ 0,iQ 0,.bool false,.bool false,iQ 0,iQ 0,.bool false,.bool false,iQ 0,.slice none 0 0] VT;have XR:=Ext.setCells (b:=w.heap.size) (Nat.le_refl _) [iQ 0,.string ⟨#[]⟩,.bool false,iQ 0,iQ 0,iQ 0,iQ 0,.bool false,.bool false,iQ 0,iQ 0,.bool false,.bool false,iQ 0,.slice none 0 0] 0 wa X1;obtain ⟨wq,hq⟩:=nm (wa.setCells w.heap.size 0 [iQ 0,.string ⟨#[]⟩,.bool false,iQ 0,iQ 0,iQ 0,iQ 0,.bool false,.bool false,iQ 0,iQ 0,.bool false,.bool false,iQ 0,.slice none 0 0]);have HQ2:Hid _:=hq;have HA:Hid _:=ha;rw [hq] at VR XR;have q0:=zA0 VR (i:=0) rfl;have q1:=zA0 VR (i:=1) rfl;have q2:=zA0 VR (i:=2) rfl;have q3:=zA0 VR (i:=3) rfl;have q4:=zA0 VR (i:=4) rfl;have q5:=zA0 VR (i:=5) rfl;have q6:=zA0 VR (i:=6) rfl;have q7:=zA0 VR (i:=7) rfl;have q8:=zA0 VR (i:=8) rfl;have q9:=zA0 VR (i:=9) rfl;have q10:=zA0 VR (i:=10) rfl;have q11:=zA0 VR (i:=11) rfl;have q12:=zA0 VR (i:=12) rfl;have q13:=zA0 VR (i:=13) rfl;have q14:=zA0 VR (i:=14) rfl;have one:(#[iQ 0,.string ⟨#[]⟩,.bool false,iQ 0,iQ 0,iQ 0,iQ 0,.bool false,.bool false,iQ 0,iQ 0,.bool false,.bool false,iQ 0,.slice none 0 0]:Array Value).all (·.oneCell')=true:=by simp [Value.oneCell']
  have VT':(w.alloc (.cells #[iQ 0,.string ⟨#[]⟩,.bool false,iQ 0,iQ 0,iQ 0,iQ 0,.bool false,.bool false,iQ 0,iQ 0,.bool false,.bool false,iQ 0,.slice none 0 0] 77)).there w.heap.size 0 15:=by rw [HA.out];exact VT
  have PO:Hid (zFY f w (.returned (.tuple #[.agg #[iQ 0,.string ⟨#[]⟩,.bool false,iQ 0,iQ 0,iQ 0,iQ 0,.bool false,.bool false,iQ 0,iQ 0,.bool false,.bool false,iQ 0,.slice none 0 0],.bool false])) wq):=⟨XR,⟨0,[],false,0,0,0,0,false,false,0,0,false,false,0⟩,none,0,0,by rw [HG.out],fun h=>by rw [HG.out] at h;cases h⟩;clear VR VT V1 X1 ha hq XR hn hrow hx hc;by_cases h0:n=0
  ·subst h0;go_enter Tryz.func39,Tryz.ntmps39;go_wp2_with (refine wpList_store_mid rfl _ _ _ rfl w.heap.size 0 #[iQ 0,.string ⟨#[]⟩,.bool false,iQ 0,iQ 0,iQ 0,iQ 0,.bool false,.bool false,iQ 0,iQ 0,.bool false,.bool false,iQ 0,.slice none 0 0] rfl rfl VT' zDL one ?_;show wpList _ _ _ _ _ ((w.alloc (.cells #[iQ 0,.string ⟨#[]⟩,.bool false,iQ 0,iQ 0,iQ 0,iQ 0,.bool false,.bool false,iQ 0,iQ 0,.bool false,.bool false,iQ 0,.slice none 0 0] 77)).setCells w.heap.size 0 [iQ 0,.string ⟨#[]⟩,.bool false,iQ 0,iQ 0,iQ 0,iQ 0,.bool false,.bool false,iQ 0,iQ 0,.bool false,.bool false,iQ 0,.slice none 0 0]);rw [HA.out,HQ2.out]);exact bodyPost_ret (v:=.tuple #[.agg #[iQ 0,.string ⟨#[]⟩,.bool false,iQ 0,iQ 0,iQ 0,iQ 0,.bool false,.bool false,iQ 0,iQ 0,.bool false,.bool false,iQ 0,.slice none 0 0],.bool false]) (by simp [results,Tryz.results39,go_sem,q0,q1,q2,q3,q4,q5,q6,q7,q8,q9,q10,q11,q12,q13,q14]) rfl PO.out
  ·have i1:¬ (n:Int)=0:=by omega
   have i2:300<(n:Int):=by omega
   have i3:((n:Int) == 0)=false:=by simp;omega
   go_enter Tryz.func39,Tryz.ntmps39;go_wp2_with (refine wpList_store_mid rfl _ _ _ rfl w.heap.size 0 #[iQ 0,.string ⟨#[]⟩,.bool false,iQ 0,iQ 0,iQ 0,iQ 0,.bool false,.bool false,iQ 0,iQ 0,.bool false,.bool false,iQ 0,.slice none 0 0] rfl rfl VT' zDL one ?_;show wpList _ _ _ _ _ ((w.alloc (.cells #[iQ 0,.string ⟨#[]⟩,.bool false,iQ 0,iQ 0,iQ 0,iQ 0,.bool false,.bool false,iQ 0,iQ 0,.bool false,.bool false,iQ 0,.slice none 0 0] 77)).setCells w.heap.size 0 [iQ 0,.string ⟨#[]⟩,.bool false,iQ 0,iQ 0,iQ 0,iQ 0,.bool false,.bool false,iQ 0,iQ 0,.bool false,.bool false,iQ 0,.slice none 0 0]);rw [HA.out,HQ2.out]);exact bodyPost_ret (v:=.tuple #[.agg #[iQ 0,.string ⟨#[]⟩,.bool false,iQ 0,iQ 0,iQ 0,iQ 0,.bool false,.bool false,iQ 0,iQ 0,.bool false,.bool false,iQ 0,.slice none 0 0],.bool false]) (by simp [results,Tryz.results39,go_sem,q0,q1,q2,q3,q4,q5,q6,q7,q8,q9,q10,q11,q12,q13,q14]) rfl PO.out
 ·have hf1:1<=f.length:=by omega
  have hf2:f.length<=300:=by omega
  have CT:=zR0 w f p cap ⟨p,cap,rfl,hc,hrow⟩ hf2 41 (by omega) f wa (List.suffix_refl _) X1;rw [Nat.sub_self] at CT;have HCT:Hid _:=CT;obtain ⟨n,hn⟩:=nm (f.length);have HN:Hid _:=hn;rw [hn] at hb hf1 hf2 HCT ⊢;have HX:Hid _:=hx;have i1:¬ (n:Int)=0:=by omega
  have i2:¬ 300<(n:Int):=by omega
  have i3:((n:Int) == 0)=false:=by simp;omega
  have i4:decide ((n:Int) > 300)=false:=decide_eq_false (by omega);clear hn hx hrow hc CT hb;have HV1:Hid _:=V1;have HX1:Hid _:=X1;clear V1 X1;have HA:Hid _:=ha;clear ha;go_enter Tryz.func39,Tryz.ntmps39;go_wp2_with fail;rw [HA.out];refine Calls.mono HCT.out ?_;rintro e w2 HP;obtain ⟨e2,x,pk,nk,ck,A,rfl,HTK⟩:=zP9 (by rw [HN.out];exact hf1) HP;have HT:Hid _:=HTK;clear HP HTK HCT;obtain ⟨ek,et,en,ed,ex,er,ec,ef,eg,er2,ec2,ef2,eg2,eq⟩:=x;obtain ⟨w4,h4,X4,V4,-⟩:=zAD w2 [iQ ek,sV et,.bool en,iQ ed,iQ ex,iQ er,iQ ec,.bool ef,.bool eg,iQ er2,iQ ec2,.bool ef2,.bool eg2,iQ eq,.slice pk nk ck] 77;have H4:Hid _:=h4;obtain ⟨gE,hgE⟩:=nm (w2.heap.size);obtain ⟨gR,hgR⟩:=nm (w.heap.size);have VR4:Vec w4 gR [iQ 0,.string ⟨#[]⟩,.bool false,iQ 0,iQ 0,iQ 0,iQ 0,.bool false,.bool false,iQ 0,iQ 0,.bool false,.bool false,iQ 0,.slice none 0 0]:=by rw [<- hgR];exact (Vec.l HV1.out e2).l X4
  rw [hgE] at V4;have hlt:gR<gE:=by have:=HX1.out.size;have h1:=e2.size;have h2:=World.size_alloc w (.cells #[iQ 0,.string ⟨#[]⟩,.bool false,iQ 0,iQ 0,iQ 0,iQ 0,.bool false,.bool false,iQ 0,iQ 0,.bool false,.bool false,iQ 0,.slice none 0 0] 77);rw [HA.out] at h2;omega
  have XW4:=xt (xt HX1.out e2) X4;have HVE:Hid _:=V4;have HVR:Hid _:=VR4;have HXW:Hid _:=XW4;have HS:Hid (gR<gE/\w.heap.size=gR/\w2.heap.size=gE/\wa.heap.size=gR+1/\gE<w4.heap.size):=⟨hlt,hgR,hgE,by rw [<- HA.out,World.size_alloc,hgR],by have:=World.size_alloc w2 (.cells #[iQ ek,sV et,.bool en,iQ ed,iQ ex,iQ er,iQ ec,.bool ef,.bool eg,iQ er2,iQ ec2,.bool ef2,.bool eg2,iQ eq,.slice pk nk ck] 77);rw [H4.out] at this;omega⟩;have HX4:Hid _:=X4;clear V4 X4 VR4 XW4 h4 hlt HV1 e2;have hex:(⟨ek,et,en,ed,ex,er,ec,ef,eg,er2,ec2,ef2,eg2,eq⟩:NT).ex (.slice pk nk ck)=.agg #[iQ ek,sV et,.bool en,iQ ed,iQ ex,iQ er,iQ ec,.bool ef,.bool eg,iQ er2,iQ ec2,.bool ef2,.bool eg2,iQ eq,.slice pk nk ck]:=rfl;rw [hex];clear hex;go_upto_region 4 with fail;rw [H4.out];clear hgE hgR
  rcases HT.out with ⟨hA,t,ht,hxt,hk⟩ | ⟨hA,hg⟩
  ·have HG:Hid (zAZ NT.good f=zFL t):=zGI (by rw [HN.out];exact hf1) (by rw [HN.out];exact hf2) ht;have hal:=(zKC (P:=fun n=>n.t.length<=1048576) 41 f t [] HX.out ht).1;have hcn:=zHJ 41 f t [] ht;obtain ⟨tn,tk⟩:=t;obtain rfl:(⟨ek,et,en,ed,ex,er,ec,ef,eg,er2,ec2,ef2,eg2,eq⟩:NT)=tn:=hxt;have HKL:Hid (∀ W,zAX gR w4 W->KidsS W (fun k=>gR+1<=k/\k<gE) (.slice pk nk ck) tk):=fun W OW=>by
    have hk':KidsS w2 (fun k=>wa.heap.size<=k/\k<w2.heap.size) (.slice pk nk ck) tk:=hk;have hs:=HS.out;refine hk'.keep (fun k hk=>?_) (fun k hk=>⟨by omega,by omega⟩);rw [OW.block k (by omega) (by omega),HX4.out.block k hk.2]
   have HGD:Hid (∀ W,zAX gR w4 W->Calls Tryz.prog 67 #[.agg #[iQ ek,sV et,.bool en,iQ ed,iQ ex,iQ er,iQ ec,.bool ef,.bool eg,iQ er2,iQ ec2,.bool ef2,.bool eg2,iQ eq,.slice pk nk ck]] W fun r w'=>r=.returned (.bool (zFL (.mk ⟨ek,et,en,ed,ex,er,ec,ef,eg,er2,ec2,ef2,eg2,eq⟩ tk)))/\Ext W w'):=fun W OW=>zV5 (fun k hk=>by have:=OW.size;have:=HS.out;omega) (HKL.out W OW) ⟨ek,et,en,ed,ex,er,ec,ef,eg,er2,ec2,ef2,eg2,eq⟩ hal.1 hal.2 (by rw [cntE,List.length_nil,HN.out] at hcn;omega);obtain ⟨GB,hGB⟩:=nm (zFL (.mk ⟨ek,et,en,ed,ex,er,ec,ef,eg,er2,ec2,ef2,eg2,eq⟩ tk));rw [hGB] at HG HGD;have HTT:Hid _:=ht;obtain rfl:A=(n:Int):=by rw [hA,HN.out]
   clear hA ht hk hal hcn hGB HT;refine zA3 (fun lx:Nat->Value=>{ tmps:=#[.slice p n cap,undef,.pointer (some ⟨gR,0,none⟩),lx 3,.pointer (some ⟨gE,0,none⟩),.int .i64 (n:Int),.slice p n cap,.int .i64 (n:Int),.bool false,.bool false,.slice p n cap,.int .i64 (n:Int),.bool false,.bool false,undef,.tuple #[.agg #[.int .i64 ek,sV et,.bool en,.int .i64 ed,.int .i64 ex,.int .i64 er,.int .i64 ec,.bool ef,.bool eg,.int .i64 er2,.int .i64 ec2,.bool ef2,.bool eg2,.int .i64 eq,.slice pk nk ck],.int .i64 (n:Int)],.slice p n cap,.tuple #[.agg #[.int .i64 ek,sV et,.bool en,.int .i64 ed,.int .i64 ex,.int .i64 er,.int .i64 ec,.bool ef,.bool eg,.int .i64 er2,.int .i64 ec2,.bool ef2,.bool eg2,.int .i64 eq,.slice pk nk ck],.int .i64 (n:Int)],.agg #[.int .i64 ek,sV et,.bool en,.int .i64 ed,.int .i64 ex,.int .i64 er,.int .i64 ec,.bool ef,.bool eg,.int .i64 er2,.int .i64 ec2,.bool ef2,.bool eg2,.int .i64 eq,.slice pk nk ck],.int .i64 (n:Int),lx 20,lx 21,lx 22,lx 23,lx 24,lx 25,lx 26,lx 27,lx 28],defers:=[] }) (fun L lx lw=>Hid (zAX gR w4 lw/\(L 9=false->Vec lw gR [iQ 0,.string ⟨#[]⟩,.bool false,iQ 0,iQ 0,iQ 0,iQ 0,.bool false,.bool false,iQ 0,iQ 0,.bool false,.bool false,iQ 0,.slice none 0 0])/\(L 9=true->lw.rangeAt gR 0 [iQ ek,sV et,.bool en,iQ ed,iQ ex,iQ er,iQ ec,.bool ef,.bool eg,iQ er2,iQ ec2,.bool ef2,.bool eg2,iQ eq,.slice pk nk ck])/\(L 0=true->lx 20=.agg #[iQ ek,sV et,.bool en,iQ ed,iQ ex,iQ er,iQ ec,.bool ef,.bool eg,iQ er2,iQ ec2,.bool ef2,.bool eg2,iQ eq,.slice pk nk ck])/\(L 1=true->lx 21=iQ (n:Int))/\(L 2=true->lx 22=.slice p n cap)/\(L 3=true->lx 23=iQ (n:Int))/\(L 4=true->lx 24=.bool true)/\(L 5=true->lx 25=.bool true)/\(L 6=true->lx 26=.agg #[iQ ek,sV et,.bool en,iQ ed,iQ ex,iQ er,iQ ec,.bool ef,.bool eg,iQ er2,iQ ec2,.bool ef2,.bool eg2,iQ eq,.slice pk nk ck])/\(L 7=true->lx 27=.bool GB)/\(L 8=true->lx 28=.bool GB)/\(L 10=true->lx 3=.bool GB))) rfl (by kernel_rfl) (fun jj=>if jj=3 then .bool false else undef) rfl ?_ ?_ ?_
   ·exact ⟨zAX.of_ext (xd (xr _)),(fun _=>Vec.l HVR.out (xd (xr _))),(fun h=>by cases h),(fun h=>by cases h),(fun h=>by cases h),(fun h=>by cases h),(fun h=>by cases h),(fun h=>by cases h),(fun h=>by cases h),(fun h=>by cases h),(fun h=>by cases h),(fun h=>by cases h),(fun h=>by cases h)⟩
   ·intro L lx lw ix o K hK ho hL haf hI hcl;obtain ⟨E,g0,g1,f0,f1,f2,f3,f4,f5,f6,f7,f8,f10⟩:=hI.out
    match ix,ho,hL,haf,hK with
    | 0,ho,hL,haf,hK =>
     cases ho
     (try dsimp only)
     refine Eq.mpr (if_pos (by rfl)) ?_;have HRE:lw.rangeAt gE 0 [iQ ek,sV et,.bool en,iQ ed,iQ ex,iQ er,iQ ec,.bool ef,.bool eg,iQ er2,iQ ec2,.bool ef2,.bool eg2,iQ eq,.slice pk nk ck]:=fun q v hv=>(by rw [Nat.zero_add];exact ((E.vec (by have:=HS.out.1;omega) HVE.out) q v hv).1);refine wpList_load_mid rfl 77 (.tmp 4) rfl gE 0 rfl _ _ HRE Tryz.underlying77 rfl zDL ?_;go_wp2_with fail;exact hK (fun jj=>if jj=20 then .agg #[iQ ek,sV et,.bool en,iQ ed,iQ ex,iQ er,iQ ec,.bool ef,.bool eg,iQ er2,iQ ec2,.bool ef2,.bool eg2,iQ eq,.slice pk nk ck] else lx jj) _ ⟨E,g0,g1,(fun _=>rfl),f1,f2,f3,f4,f5,f6,f7,f8,f10⟩
    | 1,ho,hL,haf,hK =>
     cases ho
     (try dsimp only)
     refine Eq.mpr (if_pos (by rfl)) ?_;go_wp2_with fail;exact hK (fun jj=>if jj=21 then iQ (n:Int) else lx jj) _ ⟨E,g0,g1,f0,(fun _=>rfl),f2,f3,f4,f5,f6,f7,f8,f10⟩
    | 2,ho,hL,haf,hK =>
     cases ho
     (try dsimp only)
     refine Eq.mpr (if_pos (by rfl)) ?_;go_wp2_with fail;exact hK (fun jj=>if jj=22 then .slice p n cap else lx jj) _ ⟨E,g0,g1,f0,f1,(fun _=>rfl),f3,f4,f5,f6,f7,f8,f10⟩
    | 3,ho,hL,haf,hK =>
     cases ho
     (try dsimp only)
     rw [f2 (haf ⟨2,.data⟩ (by simp) rfl)];refine Eq.mpr (if_pos (by rfl)) ?_;go_wp2_with fail;exact hK (fun jj=>if jj=23 then iQ (n:Int) else if jj=22 then .slice p n cap else lx jj) _ ⟨E,g0,g1,f0,f1,(fun _=>rfl),(fun _=>rfl),f4,f5,f6,f7,f8,f10⟩
    | 4,ho,hL,haf,hK =>
     cases ho
     (try dsimp only)
     rw [f1 (haf ⟨1,.data⟩ (by simp) rfl),f3 (haf ⟨3,.data⟩ (by simp) rfl)];refine Eq.mpr (if_pos (by rfl)) ?_;go_wp2_with fail;exact hK (fun jj=>if jj=24 then .bool true else if jj=21 then iQ (n:Int) else if jj=23 then iQ (n:Int) else lx jj) _ ⟨E,g0,g1,f0,(fun _=>rfl),f2,(fun _=>rfl),(fun _=>rfl),f5,f6,f7,f8,f10⟩
    | 5,ho,hL,haf,hK =>
     cases ho
     (try dsimp only)
     rw [f4 (haf ⟨4,.data⟩ (by simp) rfl)];refine Eq.mpr (if_pos (by rfl)) ?_;go_wp2_with fail;exact hK (fun jj=>if jj=25 then .bool true else if jj=24 then .bool true else lx jj) _ ⟨E,g0,g1,f0,f1,f2,f3,(fun _=>rfl),(fun _=>rfl),f6,f7,f8,f10⟩
    | 6,ho,hL,haf,hK =>
     cases ho
     (try dsimp only)
     rw [f5 (haf ⟨5,.guard⟩ (by simp) rfl)];refine Eq.mpr (if_pos (by rfl)) ?_;have HRE:lw.rangeAt gE 0 [iQ ek,sV et,.bool en,iQ ed,iQ ex,iQ er,iQ ec,.bool ef,.bool eg,iQ er2,iQ ec2,.bool ef2,.bool eg2,iQ eq,.slice pk nk ck]:=fun q v hv=>(by rw [Nat.zero_add];exact ((E.vec (by have:=HS.out.1;omega) HVE.out) q v hv).1);refine wpList_load_mid rfl 77 (.tmp 4) rfl gE 0 rfl _ _ HRE Tryz.underlying77 rfl zDL ?_;go_wp2_with fail;exact hK (fun jj=>if jj=26 then .agg #[iQ ek,sV et,.bool en,iQ ed,iQ ex,iQ er,iQ ec,.bool ef,.bool eg,iQ er2,iQ ec2,.bool ef2,.bool eg2,iQ eq,.slice pk nk ck] else if jj=25 then .bool true else lx jj) _ ⟨E,g0,g1,f0,f1,f2,f3,f4,(fun _=>rfl),(fun _=>rfl),f7,f8,f10⟩
    | 7,ho,hL,haf,hK =>
     cases ho
     (try dsimp only)
     rw [f5 (haf ⟨5,.guard⟩ (by simp) rfl),f6 (haf ⟨6,.data⟩ (by simp) rfl)];refine Eq.mpr (if_pos (by rfl)) ?_;go_wp2_with fail;refine (HGD.out lw E).mono ?_;rintro rr w' ⟨rfl,e'⟩;go_wp2_with fail;exact hK (fun jj=>if jj=27 then .bool GB else if jj=25 then .bool true else if jj=26 then .agg #[iQ ek,sV et,.bool en,iQ ed,iQ ex,iQ er,iQ ec,.bool ef,.bool eg,iQ er2,iQ ec2,.bool ef2,.bool eg2,iQ eq,.slice pk nk ck] else lx jj) _ ⟨(E.trans (zAX.of_ext e')),(fun h=>(g0 h).l e'),(fun h q v hv=>cell_later e' (g1 h q v hv)),f0,f1,f2,f3,f4,(fun _=>rfl),(fun _=>rfl),(fun _=>rfl),f8,f10⟩
    | 8,ho,hL,haf,hK =>
     cases ho
     (try dsimp only)
     rw [f5 (haf ⟨5,.data⟩ (by simp) rfl),f7 (haf ⟨7,.data⟩ (by simp) rfl)];refine Eq.mpr (if_pos (by rfl)) ?_;go_wp2_with fail;exact hK (fun jj=>if jj=28 then .bool GB else if jj=25 then .bool true else if jj=27 then .bool GB else lx jj) _ ⟨E,g0,g1,f0,f1,f2,f3,f4,(fun _=>rfl),f6,(fun _=>rfl),(fun _=>rfl),f10⟩
    | 9,ho,hL,haf,hK =>
     cases ho
     (try dsimp only)
     rw [f0 (haf ⟨0,.data⟩ (by simp) rfl)];refine Eq.mpr (if_pos (by rfl)) ?_;have VT:=(g0 hL).there;have VRG:=World.rangeAt_setCells_same lw gR 0 [iQ ek,sV et,.bool en,iQ ed,iQ ex,iQ er,iQ ec,.bool ef,.bool eg,iQ er2,iQ ec2,.bool ef2,.bool eg2,iQ eq,.slice pk nk ck] VT;have one:(#[iQ ek,sV et,.bool en,iQ ed,iQ ex,iQ er,iQ ec,.bool ef,.bool eg,iQ er2,iQ ec2,.bool ef2,.bool eg2,iQ eq,.slice pk nk ck]:Array Value).all (·.oneCell')=true:=(by simp [Value.oneCell']);refine wpList_store_mid rfl _ _ _ rfl gR 0 #[iQ ek,sV et,.bool en,iQ ed,iQ ex,iQ er,iQ ec,.bool ef,.bool eg,iQ er2,iQ ec2,.bool ef2,.bool eg2,iQ eq,.slice pk nk ck] rfl rfl VT zDL one ?_;change wpList _ _ _ _ _ (lw.setCells gR 0 [iQ ek,sV et,.bool en,iQ ed,iQ ex,iQ er,iQ ec,.bool ef,.bool eg,iQ er2,iQ ec2,.bool ef2,.bool eg2,iQ eq,.slice pk nk ck]);have OE:=zAX.setCells E [iQ ek,sV et,.bool en,iQ ed,iQ ex,iQ er,iQ ec,.bool ef,.bool eg,iQ er2,iQ ec2,.bool ef2,.bool eg2,iQ eq,.slice pk nk ck] 0;obtain ⟨lz,hlz⟩:=nm (lw.setCells gR 0 [iQ ek,sV et,.bool en,iQ ed,iQ ex,iQ er,iQ ec,.bool ef,.bool eg,iQ er2,iQ ec2,.bool ef2,.bool eg2,iQ eq,.slice pk nk ck]);rw [hlz] at VRG OE ⊢;clear hlz VT;go_wp2_with fail;exact hK (fun jj=>if jj=20 then .agg #[iQ ek,sV et,.bool en,iQ ed,iQ ex,iQ er,iQ ec,.bool ef,.bool eg,iQ er2,iQ ec2,.bool ef2,.bool eg2,iQ eq,.slice pk nk ck] else lx jj) _ ⟨(OE),(fun h=>by cases h),(fun _=>VRG),(fun _=>rfl),f1,f2,f3,f4,f5,f6,f7,f8,f10⟩
    | 10,ho,hL,haf,hK =>
     cases ho
     (try dsimp only)
     rw [f8 (haf ⟨8,.data⟩ (by simp) rfl)];refine Eq.mpr (if_pos (by rfl)) ?_;go_wp2_with fail;exact hK (fun jj=>if jj=3 then .bool GB else if jj=28 then .bool GB else lx jj) _ ⟨E,g0,g1,f0,f1,f2,f3,f4,f5,f6,f7,(fun _=>rfl),(fun _=>rfl)⟩
    | k+11,ho,_,_,_=>simp at ho
   ·intro L lx w9 hall hI;obtain ⟨E,g0,g1,f0,f1,f2,f3,f4,f5,f6,f7,f8,f10⟩:=hI.out;have VR:=g1 (hall 9 (by simp))
    (try dsimp only)
    rw [f10 (hall 10 (by simp)),f0 (hall 0 (by simp)),f1 (hall 1 (by simp)),f2 (hall 2 (by simp)),f3 (hall 3 (by simp)),f4 (hall 4 (by simp)),f5 (hall 5 (by simp)),f6 (hall 6 (by simp)),f7 (hall 7 (by simp)),f8 (hall 8 (by simp))];have q0:=zA0 VR (i:=0) rfl;have q1:=zA0 VR (i:=1) rfl;have q2:=zA0 VR (i:=2) rfl;have q3:=zA0 VR (i:=3) rfl;have q4:=zA0 VR (i:=4) rfl;have q5:=zA0 VR (i:=5) rfl;have q6:=zA0 VR (i:=6) rfl;have q7:=zA0 VR (i:=7) rfl;have q8:=zA0 VR (i:=8) rfl;have q9:=zA0 VR (i:=9) rfl;have q10:=zA0 VR (i:=10) rfl;have q11:=zA0 VR (i:=11) rfl;have q12:=zA0 VR (i:=12) rfl;have q13:=zA0 VR (i:=13) rfl;have q14:=zA0 VR (i:=14) rfl;have XE:=E.ext HXW.out (by rw [HS.out.2.1];exact Nat.le_refl _);have PO:Hid (zFY f w (.returned (.tuple #[.agg #[iQ ek,sV et,.bool en,iQ ed,iQ ex,iQ er,iQ ec,.bool ef,.bool eg,iQ er2,iQ ec2,.bool ef2,.bool eg2,iQ eq,.slice pk nk ck],.bool GB])) w9):=by
     refine ⟨XE,⟨ek,et,en,ed,ex,er,ec,ef,eg,er2,ec2,ef2,eg2,eq⟩,pk,nk,ck,by rw [HG.out],fun _=>⟨_,HTT.out,rfl,?_⟩⟩;exact (HKL.out w9 E).keep (fun _ _=>rfl) (fun k hk=>by have:=HS.out;have:=E.size;exact ⟨by omega,by omega⟩)
    clear hI hall E g0 g1 XE VR f0 f1 f2 f3 f4 f5 f6 f7 f8 f10;go_wp2_with fail;exact bodyPost_ret (v:=.tuple #[.agg #[iQ ek,sV et,.bool en,iQ ed,iQ ex,iQ er,iQ ec,.bool ef,.bool eg,iQ er2,iQ ec2,.bool ef2,.bool eg2,iQ eq,.slice pk nk ck],.bool GB]) (by simp [results,Tryz.results39,go_sem,q0,q1,q2,q3,q4,q5,q6,q7,q8,q9,q10,q11,q12,q13,q14]) rfl PO.out
  ·have hA2:¬ A=(n:Int):=by rw [<- HN.out];exact hA
   have hA3:(A == (n:Int))=false:=by simp;exact hA2
   have HG:Hid _:=hg;clear hA hg HT;refine zA3 (fun lx:Nat->Value=>{ tmps:=#[.slice p n cap,undef,.pointer (some ⟨gR,0,none⟩),lx 3,.pointer (some ⟨gE,0,none⟩),.int .i64 A,.slice p n cap,.int .i64 (n:Int),.bool false,.bool false,.slice p n cap,.int .i64 (n:Int),.bool false,.bool false,undef,.tuple #[.agg #[.int .i64 ek,sV et,.bool en,.int .i64 ed,.int .i64 ex,.int .i64 er,.int .i64 ec,.bool ef,.bool eg,.int .i64 er2,.int .i64 ec2,.bool ef2,.bool eg2,.int .i64 eq,.slice pk nk ck],.int .i64 A],.slice p n cap,.tuple #[.agg #[.int .i64 ek,sV et,.bool en,.int .i64 ed,.int .i64 ex,.int .i64 er,.int .i64 ec,.bool ef,.bool eg,.int .i64 er2,.int .i64 ec2,.bool ef2,.bool eg2,.int .i64 eq,.slice pk nk ck],.int .i64 A],.agg #[.int .i64 ek,sV et,.bool en,.int .i64 ed,.int .i64 ex,.int .i64 er,.int .i64 ec,.bool ef,.bool eg,.int .i64 er2,.int .i64 ec2,.bool ef2,.bool eg2,.int .i64 eq,.slice pk nk ck],.int .i64 A,lx 20,lx 21,lx 22,lx 23,lx 24,lx 25,lx 26,lx 27,lx 28],defers:=[] }) (fun L lx lw=>Hid (zAX gR w4 lw/\(L 9=false->Vec lw gR [iQ 0,.string ⟨#[]⟩,.bool false,iQ 0,iQ 0,iQ 0,iQ 0,.bool false,.bool false,iQ 0,iQ 0,.bool false,.bool false,iQ 0,.slice none 0 0])/\(L 9=true->lw.rangeAt gR 0 [iQ ek,sV et,.bool en,iQ ed,iQ ex,iQ er,iQ ec,.bool ef,.bool eg,iQ er2,iQ ec2,.bool ef2,.bool eg2,iQ eq,.slice pk nk ck])/\(L 0=true->lx 20=.agg #[iQ ek,sV et,.bool en,iQ ed,iQ ex,iQ er,iQ ec,.bool ef,.bool eg,iQ er2,iQ ec2,.bool ef2,.bool eg2,iQ eq,.slice pk nk ck])/\(L 1=true->lx 21=iQ A)/\(L 2=true->lx 22=.slice p n cap)/\(L 3=true->lx 23=iQ (n:Int))/\(L 4=true->lx 24=.bool false)/\(L 5=true->lx 25=.bool false)/\(L 6=true->lx 26=undef)/\(L 7=true->lx 27=undef)/\(L 8=true->lx 28=.bool false)/\(L 10=true->lx 3=.bool false))) rfl (by kernel_rfl) (fun jj=>if jj=3 then .bool false else undef) rfl ?_ ?_ ?_
   ·exact ⟨zAX.of_ext (xd (xr _)),(fun _=>Vec.l HVR.out (xd (xr _))),(fun h=>by cases h),(fun h=>by cases h),(fun h=>by cases h),(fun h=>by cases h),(fun h=>by cases h),(fun h=>by cases h),(fun h=>by cases h),(fun h=>by cases h),(fun h=>by cases h),(fun h=>by cases h),(fun h=>by cases h)⟩
   ·intro L lx lw ix o K hK ho hL haf hI hcl;obtain ⟨E,g0,g1,f0,f1,f2,f3,f4,f5,f6,f7,f8,f10⟩:=hI.out
    match ix,ho,hL,haf,hK with
    | 0,ho,hL,haf,hK =>
     cases ho
     (try dsimp only)
     refine Eq.mpr (if_pos (by rfl)) ?_;have HRE:lw.rangeAt gE 0 [iQ ek,sV et,.bool en,iQ ed,iQ ex,iQ er,iQ ec,.bool ef,.bool eg,iQ er2,iQ ec2,.bool ef2,.bool eg2,iQ eq,.slice pk nk ck]:=fun q v hv=>(by rw [Nat.zero_add];exact ((E.vec (by have:=HS.out.1;omega) HVE.out) q v hv).1);refine wpList_load_mid rfl 77 (.tmp 4) rfl gE 0 rfl _ _ HRE Tryz.underlying77 rfl zDL ?_;go_wp2_with fail;exact hK (fun jj=>if jj=20 then .agg #[iQ ek,sV et,.bool en,iQ ed,iQ ex,iQ er,iQ ec,.bool ef,.bool eg,iQ er2,iQ ec2,.bool ef2,.bool eg2,iQ eq,.slice pk nk ck] else lx jj) _ ⟨E,g0,g1,(fun _=>rfl),f1,f2,f3,f4,f5,f6,f7,f8,f10⟩
    | 1,ho,hL,haf,hK =>
     cases ho
     (try dsimp only)
     refine Eq.mpr (if_pos (by rfl)) ?_;go_wp2_with fail;exact hK (fun jj=>if jj=21 then iQ A else lx jj) _ ⟨E,g0,g1,f0,(fun _=>rfl),f2,f3,f4,f5,f6,f7,f8,f10⟩
    | 2,ho,hL,haf,hK =>
     cases ho
     (try dsimp only)
     refine Eq.mpr (if_pos (by rfl)) ?_;go_wp2_with fail;exact hK (fun jj=>if jj=22 then .slice p n cap else lx jj) _ ⟨E,g0,g1,f0,f1,(fun _=>rfl),f3,f4,f5,f6,f7,f8,f10⟩
    | 3,ho,hL,haf,hK =>
     cases ho
     (try dsimp only)
     rw [f2 (haf ⟨2,.data⟩ (by simp) rfl)];refine Eq.mpr (if_pos (by rfl)) ?_;go_wp2_with fail;exact hK (fun jj=>if jj=23 then iQ (n:Int) else if jj=22 then .slice p n cap else lx jj) _ ⟨E,g0,g1,f0,f1,(fun _=>rfl),(fun _=>rfl),f4,f5,f6,f7,f8,f10⟩
    | 4,ho,hL,haf,hK =>
     cases ho
     (try dsimp only)
     rw [f1 (haf ⟨1,.data⟩ (by simp) rfl),f3 (haf ⟨3,.data⟩ (by simp) rfl)];refine Eq.mpr (if_pos (by rfl)) ?_;go_wp2_with fail;exact hK (fun jj=>if jj=24 then .bool false else if jj=21 then iQ A else if jj=23 then iQ (n:Int) else lx jj) _ ⟨E,g0,g1,f0,(fun _=>rfl),f2,(fun _=>rfl),(fun _=>rfl),f5,f6,f7,f8,f10⟩
    | 5,ho,hL,haf,hK =>
     cases ho
     (try dsimp only)
     rw [f4 (haf ⟨4,.data⟩ (by simp) rfl)];refine Eq.mpr (if_pos (by rfl)) ?_;go_wp2_with fail;exact hK (fun jj=>if jj=25 then .bool false else if jj=24 then .bool false else lx jj) _ ⟨E,g0,g1,f0,f1,f2,f3,(fun _=>rfl),(fun _=>rfl),f6,f7,f8,f10⟩
    | 6,ho,hL,haf,hK =>
     cases ho
     (try dsimp only)
     rw [f5 (haf ⟨5,.guard⟩ (by simp) rfl)];refine Eq.mpr (if_neg (fun h=>Bool.noConfusion (show false=true from h))) ?_;exact hK (fun jj=>if jj=26 then undef else if jj=25 then .bool false else lx jj) _ ⟨E,g0,g1,f0,f1,f2,f3,f4,(fun _=>rfl),(fun _=>rfl),f7,f8,f10⟩
    | 7,ho,hL,haf,hK =>
     cases ho
     (try dsimp only)
     rw [f5 (haf ⟨5,.guard⟩ (by simp) rfl)];refine Eq.mpr (if_neg (fun h=>Bool.noConfusion (show false=true from h))) ?_;exact hK (fun jj=>if jj=27 then undef else if jj=25 then .bool false else lx jj) _ ⟨E,g0,g1,f0,f1,f2,f3,f4,(fun _=>rfl),f6,(fun _=>rfl),f8,f10⟩
    | 8,ho,hL,haf,hK =>
     cases ho
     (try dsimp only)
     rw [f5 (haf ⟨5,.data⟩ (by simp) rfl),f7 (haf ⟨7,.data⟩ (by simp) rfl)];refine Eq.mpr (if_pos (by rfl)) ?_;go_wp2_with fail;exact hK (fun jj=>if jj=28 then .bool false else if jj=25 then .bool false else if jj=27 then undef else lx jj) _ ⟨E,g0,g1,f0,f1,f2,f3,f4,(fun _=>rfl),f6,(fun _=>rfl),(fun _=>rfl),f10⟩
    | 9,ho,hL,haf,hK =>
     cases ho
     (try dsimp only)
     rw [f0 (haf ⟨0,.data⟩ (by simp) rfl)];refine Eq.mpr (if_pos (by rfl)) ?_;have VT:=(g0 hL).there;have VRG:=World.rangeAt_setCells_same lw gR 0 [iQ ek,sV et,.bool en,iQ ed,iQ ex,iQ er,iQ ec,.bool ef,.bool eg,iQ er2,iQ ec2,.bool ef2,.bool eg2,iQ eq,.slice pk nk ck] VT;have one:(#[iQ ek,sV et,.bool en,iQ ed,iQ ex,iQ er,iQ ec,.bool ef,.bool eg,iQ er2,iQ ec2,.bool ef2,.bool eg2,iQ eq,.slice pk nk ck]:Array Value).all (·.oneCell')=true:=(by simp [Value.oneCell']);refine wpList_store_mid rfl _ _ _ rfl gR 0 #[iQ ek,sV et,.bool en,iQ ed,iQ ex,iQ er,iQ ec,.bool ef,.bool eg,iQ er2,iQ ec2,.bool ef2,.bool eg2,iQ eq,.slice pk nk ck] rfl rfl VT zDL one ?_;change wpList _ _ _ _ _ (lw.setCells gR 0 [iQ ek,sV et,.bool en,iQ ed,iQ ex,iQ er,iQ ec,.bool ef,.bool eg,iQ er2,iQ ec2,.bool ef2,.bool eg2,iQ eq,.slice pk nk ck]);have OE:=zAX.setCells E [iQ ek,sV et,.bool en,iQ ed,iQ ex,iQ er,iQ ec,.bool ef,.bool eg,iQ er2,iQ ec2,.bool ef2,.bool eg2,iQ eq,.slice pk nk ck] 0;obtain ⟨lz,hlz⟩:=nm (lw.setCells gR 0 [iQ ek,sV et,.bool en,iQ ed,iQ ex,iQ er,iQ ec,.bool ef,.bool eg,iQ er2,iQ ec2,.bool ef2,.bool eg2,iQ eq,.slice pk nk ck]);rw [hlz] at VRG OE ⊢;clear hlz VT;go_wp2_with fail;exact hK (fun jj=>if jj=20 then .agg #[iQ ek,sV et,.bool en,iQ ed,iQ ex,iQ er,iQ ec,.bool ef,.bool eg,iQ er2,iQ ec2,.bool ef2,.bool eg2,iQ eq,.slice pk nk ck] else lx jj) _ ⟨(OE),(fun h=>by cases h),(fun _=>VRG),(fun _=>rfl),f1,f2,f3,f4,f5,f6,f7,f8,f10⟩
    | 10,ho,hL,haf,hK =>
     cases ho
     (try dsimp only)
     rw [f8 (haf ⟨8,.data⟩ (by simp) rfl)];refine Eq.mpr (if_pos (by rfl)) ?_;go_wp2_with fail;exact hK (fun jj=>if jj=3 then .bool false else if jj=28 then .bool false else lx jj) _ ⟨E,g0,g1,f0,f1,f2,f3,f4,f5,f6,f7,(fun _=>rfl),(fun _=>rfl)⟩
    | k+11,ho,_,_,_=>simp at ho
   ·intro L lx w9 hall hI;obtain ⟨E,g0,g1,f0,f1,f2,f3,f4,f5,f6,f7,f8,f10⟩:=hI.out;have VR:=g1 (hall 9 (by simp))
    (try dsimp only)
    rw [f10 (hall 10 (by simp)),f0 (hall 0 (by simp)),f1 (hall 1 (by simp)),f2 (hall 2 (by simp)),f3 (hall 3 (by simp)),f4 (hall 4 (by simp)),f5 (hall 5 (by simp)),f6 (hall 6 (by simp)),f7 (hall 7 (by simp)),f8 (hall 8 (by simp))];have q0:=zA0 VR (i:=0) rfl;have q1:=zA0 VR (i:=1) rfl;have q2:=zA0 VR (i:=2) rfl;have q3:=zA0 VR (i:=3) rfl;have q4:=zA0 VR (i:=4) rfl;have q5:=zA0 VR (i:=5) rfl;have q6:=zA0 VR (i:=6) rfl;have q7:=zA0 VR (i:=7) rfl;have q8:=zA0 VR (i:=8) rfl;have q9:=zA0 VR (i:=9) rfl;have q10:=zA0 VR (i:=10) rfl;have q11:=zA0 VR (i:=11) rfl;have q12:=zA0 VR (i:=12) rfl;have q13:=zA0 VR (i:=13) rfl;have q14:=zA0 VR (i:=14) rfl;have XE:=E.ext HXW.out (by rw [HS.out.2.1];exact Nat.le_refl _);have PO:Hid (zFY f w (.returned (.tuple #[.agg #[iQ ek,sV et,.bool en,iQ ed,iQ ex,iQ er,iQ ec,.bool ef,.bool eg,iQ er2,iQ ec2,.bool ef2,.bool eg2,iQ eq,.slice pk nk ck],.bool false])) w9):=by
     exact ⟨XE,⟨ek,et,en,ed,ex,er,ec,ef,eg,er2,ec2,ef2,eg2,eq⟩,pk,nk,ck,by rw [HG.out],fun h=>by rw [HG.out] at h;cases h⟩
    clear hI hall E g0 g1 XE VR f0 f1 f2 f3 f4 f5 f6 f7 f8 f10;go_wp2_with fail;exact bodyPost_ret (v:=.tuple #[.agg #[iQ ek,sV et,.bool en,iQ ed,iQ ex,iQ er,iQ ec,.bool ef,.bool eg,iQ er2,iQ ec2,.bool ef2,.bool eg2,iQ eq,.slice pk nk ck],.bool false]) (by simp [results,Tryz.results39,go_sem,q0,q1,q2,q3,q4,q5,q6,q7,q8,q9,q10,q11,q12,q13,q14]) rfl PO.out
theorem zRD (v:Value) (f:List NT) (w:World) (h:zAT w v f) (hx:∀ x ∈ f,x.t.length<=1048576) :
  Calls Tryz.prog 13 #[v] w fun e w'=>e=.returned (.bool (zAZ NT.good f))/\Ext w w':=by
 have C:=zU6 v f w h hx;obtain ⟨Q,hQ⟩:=nm (zAZ NT.good f);have HQ:Hid _:=hQ;rw [hQ];clear hQ;go_enter Tryz.func13,Tryz.ntmps13;go_wp2_with fail;refine C.mono ?_;rintro e w1 ⟨e1,x,pk,nk,ck,rfl,_⟩;rw [HQ.out];obtain ⟨ek,et,en,ed,ex,er,ec,ef,eg,er2,ec2,ef2,eg2,eq⟩:=x;have X2:=x1 w1 (.cells #[iQ ek,sV et,.bool en,iQ ed,iQ ex,iQ er,iQ ec,.bool ef,.bool eg,iQ er2,iQ ec2,.bool ef2,.bool eg2,iQ eq,.slice pk nk ck] 77);go_wp2_with fail;go_ret;exact ⟨rfl,xt e1 X2⟩
end Go.Proofs.YteliaeejooekbaaGreatDoor
