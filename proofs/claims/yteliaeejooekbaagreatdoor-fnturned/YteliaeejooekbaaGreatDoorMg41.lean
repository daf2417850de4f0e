import Derived.Test.YteliaeejooekbaaGreatDoorMg13
import Derived.Test.YteliaeejooekbaaGreatDoorMg15
import Derived.Test.YteliaeejooekbaaGreatDoorMg34
import Derived.Test.YteliaeejooekbaaGreatDoorMg40
import Derived.Test.YteliaeejooekbaaGreatDoorMg10
import Derived.Test.YteliaeejooekbaaGreatDoorMg25
import Derived.Test.YteliaeejooekbaaGreatDoorMg11
import Derived.Test.YteliaeejooekbaaGreatDoorMg35
import Derived.Test.YteliaeejooekbaaGreatDoorMg7
import Derived.Test.YteliaeejooekbaaGreatDoorMg5
set_option maxRecDepth 8000
set_option maxHeartbeats 8000000
namespace Go.Proofs.YteliaeejooekbaaGreatDoor
open Go.RowKit
theorem zOS:(Tryz.prog.info? 73).map (·.size)=some 14:=by kernel_rfl
theorem zSJ (v v':Value) (l:List NT) (w:World) (h:zAI w v l) (h':zAI w v' l) (hl:l.length<=2000000) :
  Calls Tryz.prog 11 #[v,v'] w fun e w'=>e=.returned (.bool true)/\Ext w w':=by
 obtain ⟨p,cap,rfl,hcap,hrow⟩:=h;obtain ⟨p',cap',rfl,hcap',hrow'⟩:=h';obtain ⟨n,hn⟩:=nm (l.length);have HN:Hid _:=hn;rw [hn] at hcap hcap' hl hrow hrow' ⊢;have HRow:Hid _:=hrow;have HRow':Hid _:=hrow';clear hn hrow hrow';go_enter Tryz.func11,Tryz.ntmps11;go_wp2_with fail;go_loopw [13] (fun i wr=>∃ k:Nat,k<=n/\i=.int .i64 k/\Ext w wr) (fun i _=>n - (intOf i).toNat)
 case atStart=>exact ⟨0,by omega,rfl,xr _⟩
 case round =>
  obtain ⟨k,hk,rfl,X⟩:=hrel;by_cases hlt:k<n
  ·obtain ⟨e,he⟩:∃ e,l[k]?=some e:=⟨_,List.getElem?_eq_getElem (by rw [HN.out];exact hlt)⟩;obtain ⟨b,o,rfl,hR⟩:=HRow.out (by omega);obtain ⟨b',o',rfl,hR'⟩:=HRow'.out (by omega);have HX:Hid _:=X;obtain ⟨ek,et,en,ed,ex,er,ec,ef,eg,er2,ec2,ef2,eg2,eq⟩:=e;have HRA:Hid (∀ wl,Ext wr wl->wl.rangeAt b (o+k * 14) [iQ ek,sV et,.bool en,iQ ed,iQ ex,iQ er,iQ ec,.bool ef,.bool eg,iQ er2,iQ ec2,.bool ef2,.bool eg2,iQ eq]):=fun wl E j u hu=>(hR.l (xt X E)) k _ he j u hu;have HRB:Hid (∀ wl,Ext wr wl->wl.rangeAt b' (o'+k * 14) [iQ ek,sV et,.bool en,iQ ed,iQ ex,iQ er,iQ ec,.bool ef,.bool eg,iQ er2,iQ ec2,.bool ef2,.bool eg2,iQ eq]):=fun wl E j u hu=>(hR'.l (xt X E)) k _ he j u hu;have i2:(k:Int)<(n:Int):=by omega
   clear hR hR' he X;go_wp2_with fail;refine zA5 (fun lx:Nat->Value=>{ tmps:=#[.slice (some ⟨b,o,none⟩) n cap,.slice (some ⟨b',o',none⟩) n cap',undef,undef,u4,.int .i64 k,.slice (some ⟨b,o,none⟩) n cap,.int .i64 n,.slice (some ⟨b',o',none⟩) n cap',.int .i64 n,.bool false,.slice (some ⟨b,o,none⟩) n cap,.int .i64 n,.int .i64 k,.bool true,.int .i64 k,lx 16,lx 17,lx 18,lx 19,lx 20,lx 21,lx 22,lx 23,lx 24,u25],defers:=[] }) (fun L lx lw=>Hid (Ext wr lw/\(L 0=true->lx 16=.slice (some ⟨b,o,none⟩) n cap)/\(L 1=true->lx 17=iQ k)/\(L 2=true->lx 18=.pointer (some ⟨b,o+k * 14,none⟩))/\(L 3=true->lx 19=.agg #[iQ ek,sV et,.bool en,iQ ed,iQ ex,iQ er,iQ ec,.bool ef,.bool eg,iQ er2,iQ ec2,.bool ef2,.bool eg2,iQ eq])/\(L 4=true->lx 20=.slice (some ⟨b',o',none⟩) n cap')/\(L 5=true->lx 21=iQ k)/\(L 6=true->lx 22=.pointer (some ⟨b',o'+k * 14,none⟩))/\(L 7=true->lx 23=.agg #[iQ ek,sV et,.bool en,iQ ed,iQ ex,iQ er,iQ ec,.bool ef,.bool eg,iQ er2,iQ ec2,.bool ef2,.bool eg2,iQ eq])/\(L 8=true->lx 24=.bool false))) rfl (by kernel_rfl) (fun jj=>if jj=16 then u16 else if jj=17 then u17 else if jj=18 then u18 else if jj=19 then u19 else if jj=20 then u20 else if jj=21 then u21 else if jj=22 then u22 else if jj=23 then u23 else if jj=24 then u24 else undef) rfl ?_ ?_ ?_
   ·exact ⟨xd (xr _),(fun h=>by cases h),(fun h=>by cases h),(fun h=>by cases h),(fun h=>by cases h),(fun h=>by cases h),(fun h=>by cases h),(fun h=>by cases h),(fun h=>by cases h),(fun h=>by cases h)⟩
   ·intro L lx wl ix o9 K hK ho hL haf hI hcl;obtain ⟨X,f0,f1,f2,f3,f4,f5,f6,f7,f8⟩:=hI.out
    match ix,ho,hL,haf,hK with
    | 0,ho,hL,haf,hK =>
     cases ho
     (try dsimp only)
     refine ip (by rfl) ?_;go_wp2_with fail;exact hK (fun jj=>if jj=16 then .slice (some ⟨b,o,none⟩) n cap else lx jj) _ ⟨X,(fun _=>rfl),f1,f2,f3,f4,f5,f6,f7,f8⟩
    | 1,ho,hL,haf,hK =>
     cases ho
     (try dsimp only)
     refine ip (by rfl) ?_;go_wp2_with fail;exact hK (fun jj=>if jj=17 then iQ k else lx jj) _ ⟨X,f0,(fun _=>rfl),f2,f3,f4,f5,f6,f7,f8⟩
    | 2,ho,hL,haf,hK =>
     cases ho
     (try dsimp only)
     rw [f0 (haf ⟨0,.data⟩ (by simp) rfl),f1 (haf ⟨1,.data⟩ (by simp) rfl)];refine ip (by rfl) ?_;go_wp2_with fail;exact hK (fun jj=>if jj=18 then .pointer (some ⟨b,o+k * 14,none⟩) else if jj=16 then .slice (some ⟨b,o,none⟩) n cap else if jj=17 then iQ k else lx jj) _ ⟨X,(fun _=>rfl),(fun _=>rfl),(fun _=>rfl),f3,f4,f5,f6,f7,f8⟩
    | 3,ho,hL,haf,hK =>
     cases ho
     (try dsimp only)
     rw [f2 (haf ⟨2,.data⟩ (by simp) rfl)];refine ip (by rfl) ?_;go_wp2_with (refine wpList_load_mid rfl 73 (.tmp 18) rfl b (o+k * 14) rfl _ _ (HRA.out _ X) Tryz.underlying73 rfl zOS ?_);exact hK (fun jj=>if jj=19 then .agg #[iQ ek,sV et,.bool en,iQ ed,iQ ex,iQ er,iQ ec,.bool ef,.bool eg,iQ er2,iQ ec2,.bool ef2,.bool eg2,iQ eq] else if jj=18 then .pointer (some ⟨b,o+k * 14,none⟩) else lx jj) _ ⟨X,f0,f1,(fun _=>rfl),(fun _=>rfl),f4,f5,f6,f7,f8⟩
    | 4,ho,hL,haf,hK =>
     cases ho
     (try dsimp only)
     refine ip (by rfl) ?_;go_wp2_with fail;exact hK (fun jj=>if jj=20 then .slice (some ⟨b',o',none⟩) n cap' else lx jj) _ ⟨X,f0,f1,f2,f3,(fun _=>rfl),f5,f6,f7,f8⟩
    | 5,ho,hL,haf,hK =>
     cases ho
     (try dsimp only)
     refine ip (by rfl) ?_;go_wp2_with fail;exact hK (fun jj=>if jj=21 then iQ k else lx jj) _ ⟨X,f0,f1,f2,f3,f4,(fun _=>rfl),f6,f7,f8⟩
    | 6,ho,hL,haf,hK =>
     cases ho
     (try dsimp only)
     rw [f4 (haf ⟨4,.data⟩ (by simp) rfl),f5 (haf ⟨5,.data⟩ (by simp) rfl)];refine ip (by rfl) ?_;go_wp2_with fail;exact hK (fun jj=>if jj=22 then .pointer (some ⟨b',o'+k * 14,none⟩) else if jj=20 then .slice (some ⟨b',o',none⟩) n cap' else if jj=21 then iQ k else lx jj) _ ⟨X,f0,f1,f2,f3,(fun _=>rfl),(fun _=>rfl),(fun _=>rfl),f7,f8⟩
    | 7,ho,hL,haf,hK =>
     cases ho
     (try dsimp only)
     rw [f6 (haf ⟨6,.data⟩ (by simp) rfl)];refine ip (by rfl) ?_;go_wp2_with (refine wpList_load_mid rfl 73 (.tmp 22) rfl b' (o'+k * 14) rfl _ _ (HRB.out _ X) Tryz.underlying73 rfl zOS ?_);exact hK (fun jj=>if jj=23 then .agg #[iQ ek,sV et,.bool en,iQ ed,iQ ex,iQ er,iQ ec,.bool ef,.bool eg,iQ er2,iQ ec2,.bool ef2,.bool eg2,iQ eq] else if jj=22 then .pointer (some ⟨b',o'+k * 14,none⟩) else lx jj) _ ⟨X,f0,f1,f2,f3,f4,f5,(fun _=>rfl),(fun _=>rfl),f8⟩
    | 8,ho,hL,haf,hK =>
     cases ho
     (try dsimp only)
     rw [f3 (haf ⟨3,.data⟩ (by simp) rfl),f7 (haf ⟨7,.data⟩ (by simp) rfl)];refine ip (by rfl) ?_;go_wp2_with fail;exact hK (fun jj=>if jj=24 then .bool false else if jj=19 then .agg #[iQ ek,sV et,.bool en,iQ ed,iQ ex,iQ er,iQ ec,.bool ef,.bool eg,iQ er2,iQ ec2,.bool ef2,.bool eg2,iQ eq] else if jj=23 then .agg #[iQ ek,sV et,.bool en,iQ ed,iQ ex,iQ er,iQ ec,.bool ef,.bool eg,iQ er2,iQ ec2,.bool ef2,.bool eg2,iQ eq] else lx jj) _ ⟨X,f0,f1,f2,(fun _=>rfl),f4,f5,f6,(fun _=>rfl),(fun _=>rfl)⟩
    | k9+9,ho,_,_,_=>simp at ho
   ·intro L lx w8 hall hI;obtain ⟨X,f0,f1,f2,f3,f4,f5,f6,f7,f8⟩:=hI.out;have e8:=f8 (hall 8 (by simp));have XE:Ext w w8:=xt HX.out X;rw [e8];clear e8 hI hall X f0 f1 f2 f3 f4 f5 f6 f7 f8
    (try dsimp only)
    go_wp2_with fail;go_roundw
    case rel=>exact ⟨k+1,by omega,by go_num,XE⟩
    case measure=>simp [intOf];omega
  ·obtain rfl:k=n:=by omega
   go_wp2_with fail;go_ret;exact ⟨rfl,X⟩
theorem zOY {f:List NT} {k:Nat} {x:NT} (h:f[k]?=some x):zD3 (f.take (k+1))=(zD3 (f.take k) || (decide (x.k=4) && (x.t == [35,82,69,70,33]))):=by
 unfold zD3;rw [List.take_add_one,h,List.any_append];simp
theorem zOZ {f:List NT} {k:Nat} (h:zD3 (f.take k)=true):zD3 f=true:=by
 unfold zD3 at h ⊢;obtain ⟨x,hx,hq⟩:=List.any_eq_true.1 h;exact List.any_eq_true.2 ⟨x,List.mem_of_mem_take hx,hq⟩
theorem goneS6 (v:Value) (f:List NT) (w:World) (h:zAI w v f) (hl:f.length<=2000000) :
  Calls Tryz.prog 17 #[v] w fun e w'=>e=.returned (.bool (zD3 f))/\Ext w w':=by
 obtain ⟨p,cap,rfl,hcap,hrow⟩:=h;obtain ⟨n,hn⟩:=nm (f.length);have HN:Hid _:=hn;rw [hn] at hcap hl hrow ⊢;have HRow:Hid _:=hrow;have H0:Hid (zD3 (f.take 0)=false):=by show _=_;rw [List.take_zero];rfl
 have HE:Hid (zD3 (f.take n)=zD3 f):=by show _=_;rw [<- hn,List.take_length]
 have HM:Hid (∀ k,zD3 (f.take k)=true->zD3 f=true):=fun k=>zOZ;obtain ⟨R,hR⟩:=nm (zD3 f);rw [hR] at HE HM ⊢;clear hn hrow hR;go_enter Tryz.func17,Tryz.ntmps17;go_wp2_with fail;go_loopw [7] (fun i wr=>∃ k:Nat,k<=n/\i=.int .i64 k/\Hid (zD3 (f.take k)=false/\Ext w wr)) (fun i _=>n - (intOf i).toNat)
 case atStart=>exact ⟨0,by omega,rfl,H0.out,xr _⟩
 case round =>
  obtain ⟨k,hk,rfl,HJ⟩:=hrel;by_cases hlt:k<n
  ·obtain ⟨x,hx⟩:∃ x,f[k]?=some x:=⟨_,List.getElem?_eq_getElem (by rw [HN.out];exact hlt)⟩;obtain ⟨b,o,rfl,RN⟩:=HRow.out (by omega);have HRN:wr.rangeAt b (o+k * 14) x.cells:=fun c u hu=>cell_later HJ.out.2 (RN k x hx c u hu);have HTK:Hid (zD3 (f.take (k+1))=(decide (x.k=4) && (x.t == [35,82,69,70,33]))):=by show _=_;rw [zOY hx,HJ.out.1,Bool.false_or]
   obtain ⟨xk,xt0,xn,xd0,xx,xr0,xc,xf,xg,xr2,xc2,xf2,xg2,xq⟩:=x;obtain ⟨wb,hb,XB,VB,-⟩:=zAC wr [iQ xk,sV xt0,.bool xn,iQ xd0,iQ xx,iQ xr0,iQ xc,.bool xf,.bool xg,iQ xr2,iQ xc2,.bool xf2,.bool xg2,iQ xq] 73;have HB:Hid _:=hb;have b0:=vC2 VB;have HX:Hid (Ext w wb):=xt HJ.out.2 XB;have HT:Hid ((decide (xk=4) && (xt0 == [35,82,69,70,33]))=false->zD3 (f.take (k+1))=false):=fun h=>HTK.out.trans h;have HY:Hid ((decide (xk=4) && (xt0 == [35,82,69,70,33]))=true->R=true):=fun h=>HM.out (k+1) (HTK.out.trans h);have i2:(k:Int)<(n:Int):=by omega
   clear hx RN hb VB XB HJ HTK H0 HM;by_cases h4:xk=4
   ·subst h4;obtain ⟨q,hq⟩:=nm ((xt0 == [35,82,69,70,33]));rw [hq] at HT HY;cases q
    ·have HZ:Hid (zD3 (f.take (k+1))=false):=HT.out rfl;clear HT HY;go_wp2_with (refine wpList_load_mid rfl 73 (.tmp 9) rfl b (o+k * 14) rfl _ _ HRN Tryz.underlying73 rfl zOS ?_);rw [HB.out];clear HRN;go_wp2_with fail;go_roundw
     case rel=>exact ⟨k+1,by omega,by go_num,HZ.out,HX.out⟩
     case measure=>simp [intOf];omega
    ·obtain rfl:R=true:=HY.out rfl;clear HT HY;go_wp2_with (refine wpList_load_mid rfl 73 (.tmp 9) rfl b (o+k * 14) rfl _ _ HRN Tryz.underlying73 rfl zOS ?_);rw [HB.out];clear HRN;go_wp2_with fail;go_ret;exact ⟨rfl,HX.out⟩
   ·have d4:decide (xk=4)=false:=decide_eq_false h4;have i4:(xk == 4)=false:=(by simp;exact h4);have HZ:Hid (zD3 (f.take (k+1))=false):=HT.out (by rw [d4];rfl);clear HT HY;go_wp2_with (refine wpList_load_mid rfl 73 (.tmp 9) rfl b (o+k * 14) rfl _ _ HRN Tryz.underlying73 rfl zOS ?_);rw [HB.out];clear HRN;go_wp2_with fail;go_roundw
    case rel=>exact ⟨k+1,by omega,by go_num,HZ.out,HX.out⟩
    case measure=>simp [intOf];omega
  ·obtain rfl:k=n:=by omega
   have HR:Hid (R=false):=HE.out.symm.trans HJ.out.1;obtain rfl:R=false:=HR.out;go_wp2_with fail;go_ret;exact ⟨rfl,HJ.out.2⟩
mutual
def zBN:ET->List NT
 | .mk n ks=>{ n with q:=(ks.length:Int) } :: zAO ks
def zAO:List ET->List NT
 | []=>[]
 | k :: ks=>zBN k++zAO ks
end
theorem zCR:∀ (ks ls:List ET),zAO (ks++ls)=zAO ks++zAO ls
 | [],ls=>by rw [List.nil_append,zAO];rfl
 | k :: ks,ls=>by rw [List.cons_append,zAO,zAO,zCR ks ls,List.append_assoc]
theorem zCU (e:ET):zAO [e]=zBN e:=by rw [zAO,zAO,List.append_nil]
def FitL (m:Nat) (l:List NT):Prop:=(∀ x ∈ l,x.fits)/\l.length<=m
theorem FitL.more {m m':Nat} {l:List NT} (h:FitL m l) (hm:m<=m'):FitL m' l:=⟨h.1,Nat.le_trans h.2 hm⟩
theorem FitL.nil:FitL 0 []:=⟨fun _ h=>(by cases h),Nat.le_refl _⟩
theorem FitL.app {m m':Nat} {l l':List NT} (h:FitL m l) (h':FitL m' l'):FitL (m+m') (l++l'):=
 ⟨fun x hx=>(List.mem_append.1 hx).elim (h.1 x) (h'.1 x),by rw [List.length_append];exact Nat.add_le_add h.2 h'.2⟩
theorem FitL.mk {m:Nat} {x:NT} {ks:List ET} (hx:x.fits) (h:FitL m (zAO ks)):FitL (m+1) (zBN (.mk x ks)):=by
 rw [zBN];refine ⟨fun y hy=>?_,by rw [List.length_cons];exact Nat.succ_le_succ h.2⟩
 rcases List.mem_cons.1 hy with rfl | hy
 ·exact hx
 ·exact h.1 y hy
theorem FitL.leaf {x:NT} (hx:x.fits):FitL 1 (zBN (.mk x [])):=FitL.mk hx (by rw [zAO];exact FitL.nil)
theorem zDK {x:NT} (t1:x.t.length<=1048576) (d1:x.d=0):x.fits:=⟨t1,by rw [d1];decide,by rw [d1];decide⟩
def zAE (m:Nat) (b base K:Nat) (w:World) (e:Ending) (w':World):Prop:=
 (∃ (x:NT) (ks:List ET) (s:Value),e=.returned (.agg #[iQ x.k,sV x.t,.bool x.n,iQ x.d,iQ x.x,iQ x.r,iQ x.c,.bool x.f,.bool x.g,iQ x.r2,iQ x.c2,.bool x.f2,.bool x.g2,iQ x.q,s])/\FitL m (zBN (.mk x ks))/\KidsS w' (fun k=>w.heap.size<=k/\k<w'.heap.size) s ks)/\Cur w' b base K/\Only b w w'
theorem zAE.more {m m' b base K K':Nat} {w w':World} {e:Ending} (h:zAE m b base K w e w') (hm:m<=m') (hK:K<=K'):zAE m' b base K' w e w':=by
 obtain ⟨⟨x,ks,s,h1,h2,h3⟩,h4,h5⟩:=h;exact ⟨⟨x,ks,s,h1,h2.more hm,h3⟩,h4.more hK,h5⟩
theorem zD8 (w:World) (U:Nat->Prop):KidsS w U (.slice none 0 0) []:=KidsS.mk none 0 [] (fun _=>undef) (Nat.le_refl _) (fun h=>absurd h (by simp)) (fun i e h=>by simp at h)
theorem KidsS.only {w w':World} {U U':Nat->Prop} {b:Nat} {v:Value} {es:List ET} (h:KidsS w U v es) (o:Only b w w') (hU:∀ k,U k->k ≠ b/\k<w.heap.size) (hu:∀ k,U k->U' k):KidsS w' U' v es:=
 h.keep (fun k hk=>o.block k (hU k hk).1 (hU k hk).2) hu
def zBI (w:World) (lo hi:Nat) (v:Value) (es:List ET):Prop:=KidsS w (fun k=>lo<=k/\k<hi) v es/\hi<=w.heap.size
theorem zBI.ext {w w':World} {lo hi:Nat} {v:Value} {es:List ET} (h:zBI w lo hi v es) (x:Ext w w'):zBI w' lo hi v es:=⟨h.1.l (fun _ hk=>Nat.lt_of_lt_of_le hk.2 h.2) x,Nat.le_trans h.2 x.size⟩
theorem zBI.only {w w':World} {lo hi b:Nat} {v:Value} {es:List ET} (h:zBI w lo hi v es) (o:Only b w w') (hb:b<lo):zBI w' lo hi v es:=⟨h.1.only o (fun _ hk=>⟨by have:=hk.1;omega,Nat.lt_of_lt_of_le hk.2 h.2⟩) (fun _ hk=>hk),Nat.le_trans h.2 o.size⟩
theorem zBI.block {w w':World} {lo hi g:Nat} {v:Value} {es:List ET} (h:zBI w lo hi v es) (hw:∀ k,k ≠ g->w'.heap[k]?=w.heap[k]?) (hs:w'.heap.size=w.heap.size) (hg:g<lo):zBI w' lo hi v es:=⟨h.1.keep (fun k hk=>hw k (by omega)) (fun _ hk=>hk),by rw [hs];exact h.2⟩
theorem zBI.blockH {w w':World} {lo hi g:Nat} {v:Value} {es:List ET} (h:zBI w lo hi v es) (hw:∀ k,k ≠ g->w'.heap[k]?=w.heap[k]?) (hs:w'.heap.size=w.heap.size) (hg:hi<=g):zBI w' lo hi v es:=⟨h.1.keep (fun k hk=>hw k (by have:=hk.2;omega)) (fun _ hk=>hk),by rw [hs];exact h.2⟩
theorem zBI.wide {w:World} {lo hi lo' hi':Nat} {v:Value} {es:List ET} (h:zBI w lo hi v es) (hl:lo'<=lo) (hh:hi<=hi'):KidsS w (fun k=>lo'<=k/\k<hi') v es:=h.1.keep (fun _ _=>rfl) (fun k hk=>⟨by omega,by omega⟩)
theorem Vec.block {w w':World} {g h:Nat} {l:List Value} (V:Vec w h l) (hw:∀ k,k ≠ g->w'.heap[k]?=w.heap[k]?) (hg:h ≠ g):Vec w' h l:=fun i u hi=>by
 obtain ⟨hc,hf⟩:=V i u hi;unfold World.cell? World.frozen? at *;rw [hw h hg];exact ⟨hc,hf⟩
abbrev Z15:List Value:=[iQ 0,.string ⟨#[]⟩,.bool false,iQ 0,iQ 0,iQ 0,iQ 0,.bool false,.bool false,iQ 0,iQ 0,.bool false,.bool false,iQ 0,.slice none 0 0]
theorem Only.setCells {b g:Nat} {a:World} (hg:a.heap.size<=g):∀ (us:List Value) (o:Nat) (w:World),Only b a w->Only b a (w.setCells g o us)
 | [],_,_,h=>h
 | u :: us,o,_,h=>Only.setCells hg us (o+1) _ (h.setNew (g:=g) (i:=o) hg u)
theorem Cur.setCells {b base K g:Nat} (hb:b ≠ g) (hg:base<=g):∀ (us:List Value) (o:Nat) (w:World),Cur w b base K->Cur (w.setCells g o us) b base K
 | [],_,_,h=>h
 | u :: us,o,_,h=>Cur.setCells hb hg us (o+1) _ (h.far (g:=g) (i:=o) hb hg u)
theorem zFO {a w:World} {b base K g:Nat} (V:Vec w g Z15) (C:Cur w b base K) (O:Only b a w) (hg:a.heap.size<=g) (hb:b ≠ g) (hbase:base<=g) (x:NT) (s:Value) :
  ∃ wy,w.setCells g 0 (x.exL s)=wy/\w.there g 0 15/\Only b a wy/\Cur wy b base K/\(∀ i u,(x.exL s)[i]?=some u->wy.cell? ⟨g,i,none⟩=some u)/\wy.heap.size=w.heap.size/\(∀ k,k ≠ g->wy.heap[k]?=w.heap[k]?):=by
 have VT:w.there g 0 15:=V.there;exact ⟨_,rfl,VT,Only.setCells hg _ _ _ O,Cur.setCells hb hbase _ _ _ C,fun i u hi=>zA0 (World.rangeAt_setCells_same w g 0 (x.exL s) VT) hi,zCE _ _ _,fun k hk=>zCF _ _ _ k hk⟩
theorem zDJ:(Tryz.prog.info? 77).map (·.size)=some 15:=by kernel_rfl
theorem zD0 (k:Int) (t:List UInt8) (p:Option Addr) (n cap:Nat) (w:World) :
  Calls Tryz.prog 80 #[iQ k,sV t,.slice p n cap] w fun e w'=>e=.returned (.agg #[iQ k,sV t,.bool false,iQ 0,iQ 0,iQ 0,iQ 0,.bool false,.bool false,iQ 0,iQ 0,.bool false,.bool false,iQ (n:Int),.slice p n cap])/\Ext w w':=by
 have V0:=zA4 w Z15 77;have X0:=x1 w (.cells Z15.toArray 77);obtain ⟨wa,ha⟩:=nm (w.alloc (.cells Z15.toArray 77));rw [ha] at V0 X0;have HWA:Hid _:=ha;have VT:wa.there w.heap.size 0 15:=V0.there;have VR:=World.rangeAt_setCells_same wa w.heap.size 0 [iQ k,sV t,.bool false,iQ 0,iQ 0,iQ 0,iQ 0,.bool false,.bool false,iQ 0,iQ 0,.bool false,.bool false,iQ (n:Int),.slice p n cap] VT;have XR:=Ext.setCells (b:=w.heap.size) (Nat.le_refl _) [iQ k,sV t,.bool false,iQ 0,iQ 0,iQ 0,iQ 0,.bool false,.bool false,iQ 0,iQ 0,.bool false,.bool false,iQ (n:Int),.slice p n cap] 0 wa X0;obtain ⟨wq,hq⟩:=nm (wa.setCells w.heap.size 0 [iQ k,sV t,.bool false,iQ 0,iQ 0,iQ 0,iQ 0,.bool false,.bool false,iQ 0,iQ 0,.bool false,.bool false,iQ (n:Int),.slice p n cap]);have HQ2:Hid _:=hq;rw [hq] at VR XR;have q0:=zA0 VR (i:=0) rfl;have q1:=zA0 VR (i:=1) rfl;have q2:=zA0 VR (i:=2) rfl;have q3:=zA0 VR (i:=3) rfl;have q4:=zA0 VR (i:=4) rfl;have q5:=zA0 VR (i:=5) rfl;have q6:=zA0 VR (i:=6) rfl;have q7:=zA0 VR (i:=7) rfl;have q8:=zA0 VR (i:=8) rfl;have q9:=zA0 VR (i:=9) rfl;have q10:=zA0 VR (i:=10) rfl;have q11:=zA0 VR (i:=11) rfl;have q12:=zA0 VR (i:=12) rfl;have q13:=zA0 VR (i:=13) rfl;have q14:=zA0 VR (i:=14) rfl;have one:(#[iQ k,sV t,.bool false,iQ 0,iQ 0,iQ 0,iQ 0,.bool false,.bool false,iQ 0,iQ 0,.bool false,.bool false,iQ (n:Int),.slice p n cap]:Array Value).all (·.oneCell')=true:=by simp [Value.oneCell']
 clear VR V0 X0 ha hq;go_enter Tryz.func80,Tryz.ntmps80;go_wp2_with (rw [HWA.out];refine zAN rfl _ _ _ rfl w.heap.size 0 _ rfl rfl VT zDJ (by simp [Value.oneCell']) HQ2.out ?_);exact bodyPost_ret (v:=.agg #[iQ k,sV t,.bool false,iQ 0,iQ 0,iQ 0,iQ 0,.bool false,.bool false,iQ 0,iQ 0,.bool false,.bool false,iQ (n:Int),.slice p n cap]) (by simp [results,Tryz.results80,go_sem,q0,q1,q2,q3,q4,q5,q6,q7,q8,q9,q10,q11,q12,q13,q14]) rfl ⟨rfl,XR⟩
def zC8 (w:World) (v:Value) (z:Int) (n:Nat):Prop:=∃ ys,Row w v ys/\Lim ys/\Top ys/\lv ys=z/\ys.length<=n
theorem zC8.l {w w1:World} {v:Value} {z:Int} {n:Nat} (h:zC8 w v z n) (hb:Ext w w1):zC8 w1 v z n:=by
 obtain ⟨ys,h1,h2⟩:=h;exact ⟨ys,h1.l hb,h2⟩
theorem zKP {xs:List Int} {j:Nat} (hj:j<xs.length) (hz:xs.getD j 0 ≠ 0):Top (xs.take (j+1)):=by
 refine .inr ?_;have e:(xs.take (j+1)).length - 1=j:=by simp;omega
 rw [e,zFB (by omega)];exact hz
theorem C32.take {w:World} {b o:Nat} {xs:List Int} (h:C32 w b o xs) (k:Nat):C32 w b o (xs.take k):=fun i hi=>by
 have hi':i<k/\i<xs.length:=by simpa [Nat.lt_min] using hi
 rw [zFB hi'.1];exact h i hi'.2
theorem Row.take {w:World} {b o cap:Nat} {xs:List Int} (h:C32 w b o xs) (k:Nat) (hk:k<=xs.length) (h1:xs.length<=cap) (h2:cap<=9223372036854775807):Row w (.slice (some ⟨b,o,none⟩) k cap) (xs.take k):=by
 have e:(xs.take k).length=k:=by simp;omega
 exact ⟨_,cap,by rw [e],by omega,h2,.inr ⟨b,o,rfl,h.take k⟩⟩
def Off (n:Nat) (v:Value):Prop:=∀ p k c,v=.slice (some p) k c->n<=p.block
theorem Off.nil (n:Nat) (k c:Nat):Off n (.slice none k c):=fun p k c h=>by cases h
theorem Off.at {n b o k c:Nat} (h:n<=b):Off n (.slice (some ⟨b,o,none⟩) k c):=fun p k c e=>by cases e;exact h
theorem Off.less {n m:Nat} {v:Value} (h:Off n v) (hm:m<=n):Off m v:=fun p k c e=>Nat.le_trans hm (h p k c e)
theorem zRE (b o cap:Nat) (xs:List Int) (w:World) (hc:xs.length<=cap) (hcap:cap<=9223372036854775807) (hx:C32 w b o xs) (hl:Lim xs) :
  Calls Tryz.prog 167 #[.slice (some ⟨b,o,none⟩) xs.length cap] w fun e w'=>∃ v',e=.returned v'/\zC8 w' v' (lv xs) xs.length/\Ext w w'/\∃ k,v'=.slice (some ⟨b,o,none⟩) k cap:=by
 go_enter Tryz.func167,Tryz.ntmps167
 go_wp2
 go_loop [3] (fun n=>∃ k:Nat,k<=xs.length/\n=.int .i64 k/\lv (xs.take k)=lv xs) (fun n=>(intOf n).toNat)
 case atStart=>exact ⟨xs.length,Nat.le_refl _,rfl,by simp⟩
 case round =>
  obtain ⟨k,hk,rfl,hv⟩:=hrel;have HV:Hid _:=hv;clear hv;by_cases h0:k=0
  ·subst h0;have HR:Hid (Row w (.slice (some ⟨b,o,none⟩) 0 cap) (xs.take 0)):=Row.take hx 0 (by omega) hc hcap;clear hx
   go_wp2
   go_ret;exact ⟨_,rfl,⟨xs.take 0,HR.out,hl.take 0,.inl (by simp),HV.out,by simp⟩,xr _,_,rfl⟩
  ·obtain ⟨j,rfl⟩:∃ j,k=j+1:=⟨k - 1,by omega⟩;have hj:j<xs.length:=by omega
   have hcell:=hx j hj;by_cases hz:xs.getD j 0=0
   ·rw [hz] at hcell;have HN:Hid (lv (xs.take j)=lv xs):=(by have:=HV.out;rw [zDQ hj hz] at this;exact this);clear h0 hz hx
    go_wp2
    go_round
    case rel=>exact ⟨j,by omega,by go_num,HN.out⟩
    case measure=>simp [intOf]
   ·have HT:Hid (Top (xs.take (j+1))):=zKP hj hz;have HR:Hid (Row w (.slice (some ⟨b,o,none⟩) (j+1) cap) (xs.take (j+1))):=Row.take hx (j+1) (by omega) hc hcap;obtain ⟨x,hxj⟩:=nm (xs.getD j 0);rw [hxj] at hcell hz;have hz':(x == 0)=false:=(by rw [beq_eq_false_iff_ne];exact hz);clear h0 hxj hz hx
    go_wp2
    go_ret;exact ⟨_,rfl,⟨xs.take (j+1),HR.out,hl.take _,HT.out,HV.out,by simp;omega⟩,xr _,_,rfl⟩
theorem zRF (w:World) :
  Calls Tryz.prog 167 #[.slice none 0 0] w fun e w'=>∃ v',e=.returned v'/\zC8 w' v' 0 0/\Ext w w'/\v'=.slice none 0 0:=by
 go_enter Tryz.func167,Tryz.ntmps167
 go_wp2
 go_loop [3] (fun n=>n=.int .i64 0) (fun _=>0)
 case atStart=>rfl
 case round =>
  subst hrel
  go_wp2
  go_ret;exact ⟨_,rfl,⟨[],⟨none,0,rfl,Nat.le_refl _,by decide,.inl ⟨rfl,rfl⟩⟩,Lim.nil,.inl rfl,rfl,Nat.le_refl _⟩,xr _,rfl⟩
theorem zEA {v:Value} {xs:List Int} (w:World) (h:Row w v xs) (hl:Lim xs) :
  Calls Tryz.prog 167 #[v] w fun e w'=>∃ v',e=.returned v'/\zC8 w' v' (lv xs) xs.length/\Ext w w'/\∀ n,Off n v->Off n v':=by
 obtain ⟨p,cap,rfl,h1,h2,h3⟩:=h
 rcases h3 with ⟨rfl,rfl⟩ | ⟨b,o,rfl,h3⟩
 ·obtain rfl:xs=[]:=List.eq_nil_of_length_eq_zero (by omega);refine (zRF w).mono ?_;rintro e w' ⟨v',rfl,hC,hx,rfl⟩;exact ⟨_,rfl,hC,hx,fun n _=>Off.nil n 0 0⟩
 ·refine (zRE b o cap xs w h1 h2 h3 hl).mono ?_;rintro e w' ⟨v',rfl,hC,hx,k,rfl⟩;exact ⟨_,rfl,hC,hx,fun n hn=>Off.at (hn _ _ _ rfl)⟩
def zHA (xs fs:List Int) (m:Int) (i:Nat) (c:Int):Prop:=
 fs.length=xs.length+1/\Lim fs/\(∀ j,i<=j->fs.getD j 0=0)/\0<=c/\c<1000000000/\lv fs+1000000000 ^ i * c=lv (xs.take i) * m
theorem zHA.step {xs fs:List Int} {m:Int} {i:Nat} {c x:Int} (h:zHA xs fs m i c) (hi:i<xs.length) (lx:Lim xs) (m0:0<=m) (m1:m<1000000000) (ex:xs.getD i 0=x) :
  zHA xs (fs.set i ((x * m+c) % 1000000000)) m (i+1) ((x * m+c) / 1000000000):=by
 obtain ⟨h1,h2,h3,c0,c1,h4⟩:=h;have hx:=lx.getD i;rw [ex] at hx;obtain ⟨p0,p1,p2⟩:=zFN hx.1 hx.2 m0 m1 (show (0:Int)<=0 by decide) (by decide) c0 c1;refine ⟨by simpa using h1,h2.set _ (by omega) (by omega),?_,by omega,by omega,?_⟩
 ·intro j hj;rw [zC5 (by omega),if_neg (by omega)];exact h3 j (by omega)
 ·rw [zGR _ _ _ (by omega),h3 i (Nat.le_refl _),zBW xs,ex,Int.pow_succ];have e3:(x * m+c) % 1000000000+1000000000 * ((x * m+c) / 1000000000)=x * m+c:=Int.emod_add_mul_ediv _ _;generalize (x * m+c) / 1000000000=q at *;generalize (x * m+c) % 1000000000=r at *;obtain rfl:r=x * m+c - 1000000000 * q:=by omega
  generalize (1000000000:Int) ^ i=p at *;generalize lv fs=F at *;generalize lv (List.take i xs)=X at *;simp only [Int.sub_zero,Int.mul_add,Int.mul_sub,Int.mul_comm,Int.mul_left_comm] at h4 ⊢;omega
theorem zHA.done {xs fs:List Int} {m c:Int} (h:zHA xs fs m xs.length c):(fs.set xs.length c).length=xs.length+1/\Lim (fs.set xs.length c)/\lv (fs.set xs.length c)=lv xs * m:=by
 obtain ⟨h1,h2,h3,c0,c1,h4⟩:=h;refine ⟨by simpa using h1,h2.set _ c0 c1,?_⟩;rw [zGR _ _ _ (by omega),h3 _ (Nat.le_refl _),Int.sub_zero,h4,List.take_length]
theorem zF7 {va:Value} {xs:List Int} (m:Int) (w:World) (ha:Row w va xs) (lx:Lim xs) (nx:xs.length<=1000000000) (m0:0<=m) (m1:m<1000000000) :
  Calls Tryz.prog 166 #[va,.int .u64 m] w fun e w'=>∃ v',e=.returned v'/\zC8 w' v' (lv xs * m) (xs.length+1)/\Ext w w'/\Off w.heap.size v':=by
 obtain ⟨px,cx,rfl,cx1,cx2,cx3⟩:=ha;have hmk:=run_make_row' (P:=Tryz.prog) 135 150 (.int .u32 0) 4 Tryz.underlying135 zER rfl .i64 .i64 (xs.length+1) (by omega) (by omega);have ec:((xs.length+1:Nat):Int)=(xs.length:Int)+1:=by omega
 rw [ec] at hmk;clear ec;go_enter Tryz.func166,Tryz.ntmps166;go_wp2_with fail;go_loopw [6,16] (fun c i wr=>∃ (n:Nat) (fs:List Int) (cc:Int),n<=xs.length/\i=.int .i64 n/\c=.int .u64 cc/\zAY wr w.heap.size fs/\zHA xs fs m n cc/\Ext w wr) (fun _ i _=>xs.length - (intOf i).toNat)
 case atStart=>exact ⟨0,List.replicate (xs.length+1) 0,0,Nat.zero_le _,rfl,rfl,zAY.zeros _ _,⟨by simp,Lim.zeros _,fun j _=>zBM _ j,by decide,by decide,by simp [lv,zBE]⟩,x1 _ _⟩
 case round =>
  obtain ⟨n,fs,cc,hn,rfl,rfl,ho,hA,X⟩:=hrel;by_cases hlt:n<xs.length
  ·have hlt':(n:Int)<(xs.length:Int):=by omega
   have hA':=hA;obtain ⟨a1,a2,a3,a4,a5,_⟩:=hA';obtain ⟨x,ex⟩:=nm (xs.getD n 0);obtain ⟨x0,x1'⟩:=lx.getD n;rw [ex] at x0 x1';have HN:Hid (zHA xs (fs.set n ((x * m+cc) % 1000000000)) m (n+1) ((x * m+cc) / 1000000000)):=hA.step hlt lx m0 m1 ex;have kz:=World.rowIs.frozen ho n;have kf:=World.rowIs.cell ho (i:=n) (by omega);have HQ:Hid (zAY wr w.heap.size fs/\n<fs.length):=⟨ho,by omega⟩;obtain ⟨bx,ox,rfl,kx⟩:∃ b o,px=some ⟨b,o,none⟩/\wr.cell? ⟨b,o+n,none⟩=some (.int .u32 x):=by
    rcases cx3 with ⟨_,h'⟩ | ⟨b,o,e,k⟩
    ·omega
    ·exact ⟨b,o,e,by rw [<- ex];exact (k.l X) n hlt⟩
   obtain ⟨p0,p1,p2⟩:=zFN x0 x1' m0 m1 (show (0:Int)<=0 by decide) (by decide) a4 a5;obtain ⟨P,hP⟩:=nm (x * m);rw [hP] at HN p0 p1 p2;rw [Int.zero_add] at p2;clear ho hA a3 ex cx3 lx hmk
   go_wp2
   go_roundw
   case rel=>exact ⟨n+1,_,_,by omega,by go_num,rfl,HQ.out.1.set _ HQ.out.2 _,HN.out,xset X (Nat.le_refl _) _⟩
   case measure=>simp [intOf];omega
  ·obtain rfl:n=xs.length:=by omega
   obtain ⟨d1,d2,d3⟩:=hA.done;have kz:=World.rowIs.frozen ho xs.length;have kf:=World.rowIs.cell ho (i:=xs.length) (by have:=hA.1;omega);have O2:=ho.set xs.length (by have:=hA.1;omega) cc;obtain ⟨a1,a2,a3,a4,a5,_⟩:=hA;have X2:=xset X (p:=⟨w.heap.size,xs.length,none⟩) (Nat.le_refl _) (.int .u32 cc);generalize fs.set xs.length cc=gs at *;have C:C32 (wr.setCell ⟨w.heap.size,xs.length,none⟩ (.int .u32 cc)) w.heap.size 0 gs:=fun i hi=>by rw [Nat.zero_add];exact World.rowIs.cell O2 hi
   have HC:Hid _:=C;have HX:Hid _:=X2;have D3:Hid _:=d3;clear ho a3 cx3 lx hmk O2 X2 C X d3;go_wp2_with fail
   go_loop [9] (fun n=>∃ k:Nat,k<=gs.length/\n=.int .i64 k/\lv (gs.take k)=lv gs) (fun n=>(intOf n).toNat)
   case atStart=>exact ⟨gs.length,Nat.le_refl _,by rw [d1];go_num,by simp⟩
   case round =>
    obtain ⟨k,hk,rfl,hv⟩:=hrel;have HV:Hid _:=hv;clear hv;have hgn:gs.length<=9223372036854775807:=(by omega);by_cases h0:k=0
    ·subst h0;have HR:Hid (Row (wr.setCell ⟨w.heap.size,xs.length,none⟩ (.int .u32 cc)) (.slice (some ⟨w.heap.size,0,none⟩) 0 (xs.length+1)) (gs.take 0)):=by rw [<- d1];exact Row.take HC.out 0 (by omega) (Nat.le_refl _) hgn
     go_wp2
     go_ret;exact ⟨_,rfl,⟨gs.take 0,HR.out,d2.take 0,.inl (by simp),HV.out.trans D3.out,by simp⟩,HX.out,Off.at (Nat.le_refl _)⟩
    ·obtain ⟨j,rfl⟩:∃ j,k=j+1:=⟨k - 1,by omega⟩;have hj:j<gs.length:=(by omega);have hcell:=HC.out j hj;rw [Nat.zero_add] at hcell;by_cases hz:gs.getD j 0=0
     ·rw [hz] at hcell;have HN:Hid (lv (gs.take j)=lv gs):=(by have:=HV.out;rw [zDQ hj hz] at this;exact this);clear h0 hz
      go_wp2
      go_round
      case rel=>exact ⟨j,by omega,by go_num,HN.out⟩
      case measure=>simp [intOf]
     ·have HT:Hid (Top (gs.take (j+1))):=zKP hj hz;have HR:Hid (Row (wr.setCell ⟨w.heap.size,xs.length,none⟩ (.int .u32 cc)) (.slice (some ⟨w.heap.size,0,none⟩) (j+1) (xs.length+1)) (gs.take (j+1))):=(by rw [<- d1];exact Row.take HC.out (j+1) (by omega) (Nat.le_refl _) hgn);obtain ⟨x,hxj⟩:=nm (gs.getD j 0);rw [hxj] at hcell hz;have hz':(x == 0)=false:=(by rw [beq_eq_false_iff_ne];exact hz);clear h0 hxj hz
      go_wp2
      go_ret;exact ⟨_,rfl,⟨gs.take (j+1),HR.out,d2.take _,HT.out,HV.out.trans D3.out,by simp;omega⟩,HX.out,Off.at (Nat.le_refl _)⟩
theorem zD6 {va vb:Value} {xs ys:List Int} (w:World) (ha:Row w va xs) (hb:Row w vb ys) (lx:Lim xs) (ly:Lim ys) (nx:xs.length<=1000000000) (nyx:ys.length<=xs.length) (hle:lv ys<=lv xs) :
  Calls Tryz.prog 113 #[va,vb] w fun e w'=>∃ v' fs,e=.returned v'/\Row w' v' fs/\Lim fs/\lv fs=lv xs - lv ys/\fs.length=xs.length/\Ext w w'/\∃ k c,v'=.slice (some ⟨w.heap.size,0,none⟩) k c:=by
 obtain ⟨px,cx,rfl,cx1,cx2,cx3⟩:=ha;obtain ⟨py,cy,rfl,cy1,cy2,cy3⟩:=hb;have hmk:=run_make_row' (P:=Tryz.prog) 135 150 (.int .u32 0) 4 Tryz.underlying135 zER rfl .i64 .i64 xs.length (by omega) (by omega);have HL:Hid _:=hle;clear hle;go_enter Tryz.func113,Tryz.ntmps113;go_wp2_with fail;go_loopw [6,14] (fun c i wr=>∃ (m:Nat) (fs:List Int) (cc:Int),m<=xs.length/\i=.int .i64 m/\c=.int .i64 cc/\zAY wr w.heap.size fs/\zFQ xs ys fs m cc/\Ext w wr) (fun _ i _=>xs.length - (intOf i).toNat)
 case atStart=>exact ⟨0,List.replicate xs.length 0,0,Nat.zero_le _,rfl,rfl,zAY.zeros _ _,zFQ.start _ _,x1 _ _⟩
 case round =>
  obtain ⟨m,fs,cc,hm,rfl,rfl,ho,hA,X⟩:=hrel;by_cases hlt:m<xs.length
  ·have hlt':(m:Int)<(xs.length:Int):=by omega
   have hA':=hA;obtain ⟨a1,a2,a3,a4,a5,_⟩:=hA';obtain ⟨x,ex⟩:=nm (xs.getD m 0);obtain ⟨y,ey⟩:=nm (ys.getD m 0);obtain ⟨x0,x1'⟩:=lx.getD m;obtain ⟨y0,y1'⟩:=ly.getD m;rw [ex] at x0 x1';rw [ey] at y0 y1';have HE:Hid (xs.getD m 0=x/\ys.getD m 0=y):=⟨ex,ey⟩;have kf:=World.rowIs.cell ho (i:=m) (by omega);have kz:=World.rowIs.frozen ho m;have HQ:Hid (zAY wr w.heap.size fs/\m<fs.length):=⟨ho,by omega⟩;obtain ⟨bx,ox,rfl,kx⟩:∃ b o,px=some ⟨b,o,none⟩/\wr.cell? ⟨b,o+m,none⟩=some (.int .u32 x):=by
    rcases cx3 with ⟨_,h'⟩ | ⟨b,o,e,k⟩
    ·omega
    ·exact ⟨b,o,e,by rw [<- ex];exact (k.l X) m hlt⟩
   have KY:Hid (m<ys.length->∃ b o,py=some ⟨b,o,none⟩/\wr.cell? ⟨b,o+m,none⟩=some (.int .u32 y)):=fun h=>by
    rcases cy3 with ⟨_,h'⟩ | ⟨b,o,e,k⟩
    ·omega
    ·exact ⟨b,o,e,by rw [<- ey];exact (k.l X) m h⟩
   have EY:Hid (¬ m<ys.length->y=0):=fun h=>by rw [<- ey,List.getD_eq_getElem?_getD,List.getElem?_eq_none (by omega)];rfl
   clear ho a3 ex ey cx3 cy3 lx ly hmk HL;by_cases hy:m<ys.length
   ·obtain ⟨bv,ov,rfl,ky⟩:=KY.out hy;clear KY EY;by_cases hneg:x - cc - y<0
    ·have hs:x - cc - y<0:=(by omega);have HN:Hid (zFQ xs ys (fs.set m (x - cc - y+1000000000)) (m+1) 1):=by
      refine hA.step hlt (by decide) (by decide) ?_ (by omega) (by omega);rw [HE.out.1,HE.out.2];omega
     clear hA
     go_wp2
     go_roundw
     case rel=>exact ⟨m+1,_,_,by omega,by go_num,rfl,HQ.out.1.set _ HQ.out.2 _,HN.out,xset X (Nat.le_refl _) _⟩
     case measure=>simp [intOf];omega
    ·have hs:0<=x - cc - y:=(by omega);have HN:Hid (zFQ xs ys (fs.set m (x - cc - y)) (m+1) 0):=by
      refine hA.step hlt (by decide) (by decide) ?_ (by omega) (by omega);rw [HE.out.1,HE.out.2];omega
     clear hA
     go_wp2
     go_roundw
     case rel=>exact ⟨m+1,_,_,by omega,by go_num,rfl,HQ.out.1.set _ HQ.out.2 _,HN.out,xset X (Nat.le_refl _) _⟩
     case measure=>simp [intOf];omega
   ·obtain rfl:=EY.out hy;clear KY EY;by_cases hneg:x - cc<0
    ·have hs:x - cc<0:=(by omega);have HN:Hid (zFQ xs ys (fs.set m (x - cc+1000000000)) (m+1) 1):=by
      refine hA.step hlt (by decide) (by decide) ?_ (by omega) (by omega);rw [HE.out.1,HE.out.2];omega
     clear hA
     go_wp2
     go_roundw
     case rel=>exact ⟨m+1,_,_,by omega,by go_num,rfl,HQ.out.1.set _ HQ.out.2 _,HN.out,xset X (Nat.le_refl _) _⟩
     case measure=>simp [intOf];omega
    ·have hs:0<=x - cc:=(by omega);have HN:Hid (zFQ xs ys (fs.set m (x - cc)) (m+1) 0):=by
      refine hA.step hlt (by decide) (by decide) ?_ (by omega) (by omega);rw [HE.out.1,HE.out.2];omega
     clear hA
     go_wp2
     go_roundw
     case rel=>exact ⟨m+1,_,_,by omega,by go_num,rfl,HQ.out.1.set _ HQ.out.2 _,HN.out,xset X (Nat.le_refl _) _⟩
     case measure=>simp [intOf];omega
  ·obtain rfl:m=xs.length:=by omega
   have hd:=hA.done nyx HL.out;have hl:=hA.1;have hlim:=hA.2.1;have R:=ho.row (by omega);rw [hl] at R;have HR:Hid (Row wr (.slice (some ⟨w.heap.size,0,none⟩) xs.length xs.length) fs/\Lim fs/\lv fs=lv xs - lv ys/\fs.length=xs.length):=⟨R,hlim,hd,hl⟩;clear R hlim hd hl ho hA cx3 cy3 lx ly hmk
   go_wp2
   go_ret;exact ⟨_,fs,rfl,HR.out.1,HR.out.2.1,HR.out.2.2.1,HR.out.2.2.2,X,_,_,rfl⟩
end Go.Proofs.YteliaeejooekbaaGreatDoor
namespace Go.Proofs.YteliaeejooekbaaGreatDoor
theorem zBP (xs:List Int) (i:Nat) (h:i<xs.length):lv (xs.drop i)=xs.getD i 0+1000000000 * lv (xs.drop (i+1)):=by
 rw [List.drop_eq_getElem_cons h];simp [lv,h]
def zEF (xs bs qs:List Int) (n:Nat) (R:Int):Prop:=
 qs.length=xs.length+1/\Lim qs/\lv (xs.drop n)=lv (qs.drop n) * lv bs+R/\0<=R/\R<lv bs/\(∀ j,j<n->qs.getD j 0=0)/\qs.getD xs.length 0=0
theorem zEF.start (xs bs:List Int) (hb:0<lv bs):zEF xs bs (List.replicate (xs.length+1) 0) xs.length 0:=by
 refine ⟨by simp,Lim.zeros _,?_,by omega,hb,fun j _=>zBM _ j,zBM _ _⟩;rw [List.drop_eq_nil_of_le (Nat.le_refl _),List.drop_replicate,zBE];simp [lv]
theorem zEF.step {xs bs qs:List Int} {i:Nat} {R g R' x:Int} (h:zEF xs bs qs (i+1) R) (hi:i<xs.length) (ex:xs.getD i 0=x) (g0:0<=g) (g1:g<1000000000) (hR:R'=x+1000000000 * R - g * lv bs) (r0:0<=R') (r1:R'<lv bs) :
  zEF xs bs (qs.set i g) i R':=by
 obtain ⟨h1,h2,h3,_,_,h6,h7⟩:=h;refine ⟨by simpa using h1,h2.set _ g0 g1,?_,r0,r1,?_,?_⟩
 ·rw [zBP xs i hi,ex,h3,zBP (qs.set i g) i (by simp;omega),zC5 (by omega),if_pos rfl,List.drop_set_of_lt (by omega),hR];generalize lv (qs.drop (i+1))=Q at *;generalize lv bs=B at *;simp only [Int.add_mul,Int.mul_add,Int.mul_assoc];omega
 ·intro j hj;rw [zC5 (by omega),if_neg (by omega)];exact h6 j (by omega)
 ·rw [zC5 (by omega),if_neg (by omega)];exact h7
theorem zEF.skip {xs bs qs:List Int} {i:Nat} {R x:Int} (h:zEF xs bs qs (i+1) R) (hi:i<xs.length) (lx:Lim xs) (ex:xs.getD i 0=x) (r1:x+1000000000 * R<lv bs) :
  zEF xs bs qs i (x+1000000000 * R):=by
 obtain ⟨h1,h2,h3,h4,_,h6,h7⟩:=h;have hx:=lx.getD i;rw [ex] at hx;refine ⟨h1,h2,?_,by omega,r1,fun j hj=>h6 j (by omega),h7⟩;rw [zBP xs i hi,ex,h3,zBP qs i (by omega),h6 i (by omega)];generalize lv (qs.drop (i+1))=Q at *;generalize lv bs=B at *;simp only [Int.mul_add,Int.zero_add,Int.mul_assoc];omega
theorem zEF.done {xs bs qs:List Int} {R:Int} (h:zEF xs bs qs 0 R):lv xs=lv qs * lv bs+R:=by
 have:=h.2.2.1;simpa using this
theorem zCQ {bs ps:List Int} (lb:Lim bs) (lp:Lim ps) (tb:bs.length=0\/bs.getD (bs.length - 1) 0 ≠ 0) (h:lv bs<=lv ps):bs.length<=ps.length:=by
 by_cases hl:bs.length<=ps.length
 ·exact hl
 ·have:=zGS lp lb (tb.resolve_left (by omega)) (by omega);omega
theorem zRX {bs:List Int} (lb:Lim bs) (hb:0<bs.length):bs.getD (bs.length - 1) 0 * 1000000000 ^ (bs.length - 1)<=lv bs:=by
 rw [zF9 bs (bs.length - 1) (by omega),List.drop_eq_nil_of_le (by omega)];have:=zCZ (lb.take (bs.length - 1));simp only [lv,Int.mul_zero,Int.add_zero];rw [Int.mul_comm];omega
theorem zFF {a b p:Int} (hp:0<p) (h:a * p<b * p):a<b:=(Int.mul_lt_mul_right hp).1 h
theorem guess1 {rs bs:List Int} {t:Int} (lr:Lim rs) (lb:Lim bs) (hL:rs.length=bs.length) (hb:0<bs.length) (ht:0<bs.getD (bs.length - 1) 0) (t0:0<=t) (h:t * lv bs<=lv rs) :
  t<=rs.getD (rs.length - 1) 0 / bs.getD (bs.length - 1) 0:=by
 have hB:=zRX lb hb;have hR:lv rs<(rs.getD (rs.length - 1) 0+1) * 1000000000 ^ (bs.length - 1):=by
  rw [zF9 rs (rs.length - 1) (by omega),List.drop_eq_nil_of_le (by omega)];have h1:=zJ2 (lr.take (rs.length - 1));have e:(rs.take (rs.length - 1)).length=rs.length - 1:=by simp
  rw [e] at h1;rw [hL] at h1 ⊢;simp only [lv,Int.mul_zero,Int.add_zero,Int.add_mul,Int.one_mul];rw [Int.mul_comm (rs.getD (bs.length - 1) 0)];omega
 generalize rs.getD (rs.length - 1) 0=r at *;generalize bs.getD (bs.length - 1) 0=b at *;have hp:=zE6 (bs.length - 1);generalize (1000000000:Int) ^ (bs.length - 1)=p at *;have h2:t * (b * p)<=t * lv bs:=Int.mul_le_mul_of_nonneg_left hB t0;have h3:t * b * p<(r+1) * p:=by rw [Int.mul_assoc];omega
 have h4:=zFF hp h3;exact (Int.le_ediv_iff_mul_le ht).2 (by omega)
theorem guess2 {rs bs:List Int} {t:Int} (lr:Lim rs) (lb:Lim bs) (hL:rs.length=bs.length+1) (hb:0<bs.length) (ht:0<bs.getD (bs.length - 1) 0) (t0:0<=t) (h:t * lv bs<=lv rs) :
  t<=(rs.getD (rs.length - 1) 0 * 1000000000+rs.getD (rs.length - 2) 0) / bs.getD (bs.length - 1) 0:=by
 have hB:=zRX lb hb;have e2:rs.length - 2+1=rs.length - 1:=by omega
 have e3:rs.length - 2=bs.length - 1:=by omega
 have hR:lv rs<(rs.getD (rs.length - 1) 0 * 1000000000+rs.getD (rs.length - 2) 0+1) * 1000000000 ^ (bs.length - 1):=by
  rw [zF9 rs (rs.length - 2) (by omega),e2,zBP rs (rs.length - 1) (by omega),List.drop_eq_nil_of_le (by omega)];have h1:=zJ2 (lr.take (rs.length - 2));have e:(rs.take (rs.length - 2)).length=rs.length - 2:=by simp
  rw [e] at h1;rw [e3] at h1 ⊢;simp only [lv,Int.mul_zero,Int.add_zero];generalize rs.getD (rs.length - 1) 0=r at *;generalize rs.getD (bs.length - 1) 0=s at *;generalize (1000000000:Int) ^ (bs.length - 1)=p at *;generalize lv (List.take (bs.length - 1) rs)=X at *;simp only [Int.mul_add,Int.mul_comm,Int.mul_left_comm];omega
 generalize rs.getD (rs.length - 1) 0 * 1000000000+rs.getD (rs.length - 2) 0=r at *;generalize bs.getD (bs.length - 1) 0=b at *;have hp:=zE6 (bs.length - 1);generalize (1000000000:Int) ^ (bs.length - 1)=p at *;have h2:t * (b * p)<=t * lv bs:=Int.mul_le_mul_of_nonneg_left hB t0;have h3:t * b * p<(r+1) * p:=by rw [Int.mul_assoc];omega
 have h4:=zFF hp h3;exact (Int.le_ediv_iff_mul_le ht).2 (by omega)
theorem zOT {B rho t:Int} (hB:0<B) (hr:rho<B * 1000000000) (h:t * B<=rho):t<=999999999:=by
 have h1:t * B<1000000000 * B:=by rw [Int.mul_comm 1000000000 B];omega
 have:=zFF hB h1;omega
theorem zEV {B rho g:Int} (hub:∀ t,0<=t->t * B<=rho->t<=g) (hg:rho<g * B):∀ t,0<=t->t * B<=rho->t<=g - 1:=fun t h0 h=>by
 have h1:=hub t h0 h;by_cases e:t=g
 ·subst e;omega
 ·omega
theorem zEU {B rho g:Int} (g0:0<=g) (hub:∀ t,0<=t->t * B<=rho->t<=g):rho - g * B<B:=by
 by_cases h:rho - g * B<B
 ·exact h
 ·have:=hub (g+1) (by omega) (by rw [Int.add_mul,Int.one_mul];omega);omega
theorem zFK {B rho g:Int} (r0:0<=rho) (g0:0<=g) (h:rho<g * B):1<=g:=by
 by_cases e:g=0
 ·subst e;simp at h;omega
 ·omega
def zFG (rs fs:List Int) (k:Int) (n:Nat) (c:Int):Prop:=
 fs.length=rs.length/\Lim fs/\0<=c/\c<k/\lv (rs.drop n)=lv (fs.drop n) * k+c/\(∀ j,j<n->fs.getD j 0=0)
theorem zFG.start (rs:List Int) (k:Int) (hk:0<k):zFG rs (List.replicate rs.length 0) k rs.length 0:=by
 refine ⟨by simp,Lim.zeros _,by omega,hk,?_,fun j _=>zBM _ j⟩;rw [List.drop_eq_nil_of_le (Nat.le_refl _),List.drop_replicate,zBE];simp [lv]
theorem zFG.step {rs fs:List Int} {k:Int} {i:Nat} {c x:Int} (h:zFG rs fs k (i+1) c) (hi:i<rs.length) (lr:Lim rs) (hk:0<k) (ex:rs.getD i 0=x) :
  zFG rs (fs.set i ((c * 1000000000+x) / k)) k i ((c * 1000000000+x) % k)/\0<=(c * 1000000000+x) / k/\(c * 1000000000+x) / k<1000000000:=by
 obtain ⟨h1,h2,h3,h4,h5,h6⟩:=h;have hx:=lr.getD i;rw [ex] at hx;have q0:0<=(c * 1000000000+x) / k:=Int.ediv_nonneg (by omega) (by omega);have q1:(c * 1000000000+x) / k<1000000000:=by
  refine (Int.ediv_lt_iff_lt_mul hk).2 ?_;have:c * 1000000000+1000000000<=k * 1000000000:=by omega
  omega
 refine ⟨⟨by simpa using h1,h2.set _ q0 q1,Int.emod_nonneg _ (by omega),Int.emod_lt_of_pos _ hk,?_,?_⟩,q0,q1⟩
 ·rw [zBP rs i hi,ex,h5,zBP (fs.set i _) i (by simp;omega),zC5 (by omega),if_pos rfl,List.drop_set_of_lt (by omega)];have e3:(c * 1000000000+x) % k+k * ((c * 1000000000+x) / k)=c * 1000000000+x:=Int.emod_add_mul_ediv _ _;generalize (c * 1000000000+x) / k=q at *;generalize (c * 1000000000+x) % k=r at *;generalize lv (fs.drop (i+1))=F at *;rw [Int.mul_comm k q] at e3;simp only [Int.add_mul,Int.mul_add,Int.mul_assoc];generalize F * k=Fk at *;generalize q * k=qk at *;omega
 ·intro j hj;rw [zC5 (by omega),if_neg (by omega)];exact h6 j (by omega)
theorem zFG.done {rs fs:List Int} {k c:Int} (h:zFG rs fs k 0 c):lv rs=lv fs * k+c:=by
 have:=h.2.2.2.2.1;simpa using this
theorem zPB {a b k q R r c:Int} (hk:0<k) (h1:a * k=q * (b * k)+R) (h2:0<=R) (h3:R<b * k) (h4:R=r * k+c) (c0:0<=c) (c1:c<k):q=a / b/\r=a % b:=by
 have e:(a - q * b - r) * k=c:=by
  rw [Int.sub_mul,Int.sub_mul,Int.mul_assoc];omega
 have hz:a - q * b - r=0:=by
  by_cases hp:a - q * b - r=0
  ·exact hp
  ·by_cases hn:a - q * b - r<0
   ·have:(a - q * b - r) * k <= -1 * k:=Int.mul_le_mul_of_nonneg_right (by omega) (by omega);omega
   ·have:1 * k<=(a - q * b - r) * k:=Int.mul_le_mul_of_nonneg_right (by omega) (by omega);omega
 have hc:c=0:=by rw [hz] at e;simpa using e.symm
 have r0:0<=r:=by
  by_cases h:0<=r
  ·exact h
  ·have:r * k <= -1 * k:=Int.mul_le_mul_of_nonneg_right (by omega) (by omega);omega
 have r1:r<b:=zFF hk (by omega);have hb:0<b:=by omega
 have ea:a=r+b * q:=by rw [Int.mul_comm b q];omega
 constructor
 ·rw [ea,Int.add_mul_ediv_left _ _ (by omega),Int.ediv_eq_zero_of_lt r0 r1];omega
 ·rw [ea,Int.add_mul_emod_self_left,Int.emod_eq_of_lt r0 r1]
end Go.Proofs.YteliaeejooekbaaGreatDoor
