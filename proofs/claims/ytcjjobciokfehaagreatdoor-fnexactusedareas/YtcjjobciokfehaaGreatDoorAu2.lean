/-
  Chapter 4: areas compared, sought in a row; the areas that nodes use, plainly.
-/
import Derived.Test.YtcjjobciokfehaaGreatDoorMg37
import Derived.Test.YtcjjobciokfehaaGreatDoorMg39
import Derived.Test.YtcjjobciokfehaaGreatDoorMg26
import Derived.BigQuiet
namespace Go.Proofs.YtcjjobciokfehaaGreatDoor
open Go.RowKit
theorem xdNA {a b:World} (h:Ext a b) (n:Nat):Ext a (b.drewN n):=⟨h.os,h.tape,h.output,h.size,h.block⟩
abbrev Ar.val (x:Ar):Value:=.agg #[.int .i64 x.1,.int .i64 x.2.1,.bool false,.bool false,.int .i64 x.2.2.1,.int .i64 x.2.2.2,.bool false,.bool false]
def NT.ar (x:NT):Ar:=(lo x.r x.er,lo x.c x.ec,hi x.r x.er,hi x.c x.ec)
def addA (out:List Ar) (a:Ar):List Ar:=if a ∈ out then out else out++[a]
def usedY {f:List NT} (ys:List (YA f)):List Ar:=ys.foldl (fun o y=>addA o y.x.ar) []
theorem usedY_snoc {f:List NT} (ys:List (YA f)) (y:YA f):usedY (ys++[y])=addA (usedY ys) y.x.ar:=by
 unfold usedY;rw [List.foldl_append];rfl
theorem addA_len (out:List Ar) (a:Ar):(addA out a).length≤out.length+1:=by
 unfold addA
 split
 ·omega
 ·rw [List.length_append];simp
theorem usedY_len {f:List NT} (ys:List (YA f)):(usedY ys).length≤ys.length:=by
 have:∀ (ys:List (YA f)) (o:List Ar),(ys.foldl (fun o y=>addA o y.x.ar) o).length≤o.length+ys.length:=by
  intro ys
  induction ys with
  | nil=>intro o;simp
  | cons y ys ih=>intro o;rw [List.foldl_cons,List.length_cons];have:=ih (addA o y.x.ar);have:=addA_len o y.x.ar;omega
 have:=this ys [];rw [List.length_nil,Nat.zero_add] at this;exact this
noncomputable def usedAR (f:List NT):List Ar:=if goodSF NT.good f=true then usedY (adrT f f.length) else []
set_option maxHeartbeats 4000000 in
theorem ar_eql (x y:Ar) (W:World):(binOp BinOp.eql 61 x.val y.val).run Tryz.prog W=.ok (.bool (decide (x=y))) W:=by
 by_cases h:x=y
 ·subst h;rw [decide_eq_true rfl]
  go_simp
 ·rw [decide_eq_false h];obtain ⟨a1,a2,a3,a4⟩:=x;obtain ⟨b1,b2,b3,b4⟩:=y;have H:Hid (¬ (a1=b1∧a2=b2∧a3=b3∧a4=b4)):=fun e=>h (by obtain ⟨rfl,rfl,rfl,rfl⟩:=e;rfl);clear h
  go_simp
  intros
  have:=H.out
  simp_all
def AreasIn (w:World) (v:Value) (l:List Ar):Prop:=
 ∃ p cap,v=.slice p l.length cap∧l.length≤cap∧(0<l.length→∃ b,p=some ⟨b,0,none⟩∧∀ (i:Nat) (x:Ar),l[i]?=some x→∀ (c:Nat) (u:Value),(cellsA x)[c]?=some u→w.cell? ⟨b,i * 8+c,none⟩=some u)
theorem AreasIn.later {w w':World} {v:Value} {l:List Ar} (h:AreasIn w v l) (x:Ext w w'):AreasIn w' v l:=by
 obtain ⟨p,cap,h1,h2,h3⟩:=h;refine ⟨p,cap,h1,h2,fun h0=>?_⟩;obtain ⟨b,h4,h5⟩:=h3 h0;exact ⟨b,h4,fun i e hi c u hc=>cell_later x (h5 i e hi c u hc)⟩
theorem ownA_in {w:World} {base:Nat} {v:Value} {l:List Ar} (h:OwnA w base v l):AreasIn w v l:=by
 rcases h.2 with ⟨rfl,h0⟩ | ⟨g,cap,cur,rfl,h2,h3,h4,h5,h6,h7⟩
 ·have hl:l=[]:=List.eq_nil_of_length_eq_zero h0;subst hl;exact ⟨none,0,rfl,Nat.le_refl _,fun h=>(by cases h)⟩
 ·refine ⟨_,cap,rfl,h4,fun _=>⟨g,rfl,fun i e hi c u hc=>?_⟩⟩;have hc8:c<8:=(List.getElem?_eq_some_iff.1 hc).1;have:=h.cells (g:=g) rfl (i * 8+c) u (by rw [flatA_at hi c hc8];exact hc);rw [Addr.add_lit,Nat.zero_add] at this;exact this
theorem ownA_slice {w:World} {base:Nat} {v:Value} {l:List Ar} (h:OwnA w base v l):∃ p c,v=.slice p l.length c∧l.length≤c:=by
 rcases h.2 with ⟨rfl,h0⟩ | ⟨g,cap,cur,rfl,_,_,h3,_⟩
 ·exact ⟨none,0,by rw [h0],by omega⟩
 ·exact ⟨_,_,rfl,h3⟩
theorem infoAB:∃ inf,Tryz.prog.info? 61=some inf∧inf.zero=some (arV 0 0 false false 0 0 false false)∧inf.size=8∧inf.bytes≤1000:=by
 obtain ⟨inf,h1,h2,h3,h4⟩:=infoA';exact ⟨inf,h1,h2,h3,by omega⟩
theorem app_ar (w:World) (base:Nat) (v:Value) (l:List Ar) (O:OwnA w base v l) (x:Ar) (b:Nat) (V:w.rangeAt b 0 (cellsA x)) (hl:l.length≤900000) (hb:base≤w.heap.size) :
  ∃ v' w',(Builtin.append_ #[29,29] 29 #[v,.slice (some ⟨b,0,none⟩) 1 1]).run Tryz.prog w=.ok v' w'∧OwnA w' base v' (l++[x])∧w.grownBy w' v.ownBlock∧(v'.ownBlock=v.ownBlock∨v'.ownBlock=some w.heap.size):=by
 obtain ⟨inf,hi,hz,hsz,hby⟩:=infoAB;obtain ⟨v',w',hrun,O',GW,hbl⟩:=app_srcB (P:=Tryz.prog) w base 29 29 29 61 inf (arV 0 0 false false 0 0 false false) Tryz.underlying29 hi hz 8 hsz hby rfl v l.length _ O (.slice (some ⟨b,0,none⟩) 1 1) 1 (cellsA x)
  (Src.ofSlice (size:=8) w Tryz.underlying29 ⟨b,0,none⟩ 1 1 (cellsA x) rfl (fun j u hj=>by rw [Addr.add_lit];exact V j u hj) (fun u hu=>by
   simp only [cellsA,List.mem_cons,List.not_mem_nil,or_false] at hu
   rcases hu with rfl | rfl | rfl | rfl | rfl | rfl | rfl | rfl <;> rfl)) (by omega) hb
 refine ⟨v',w',hrun,?_,GW,hbl⟩;show World.ownsRow _ _ _ _ _ _ _;rw [List.length_append,flatA_append];have e:flatA [x]=cellsA x:=by rw [flatA,flatA,List.append_nil]
 rw [e];exact O'
set_option maxRecDepth 8000 in
set_option maxHeartbeats 4000000 in
theorem indexA (v:Value) (l:List Ar) (x:Ar) (w:World) (h:AreasIn w v l) (hL:l.length≤1048576) :
  Calls Tryz.prog 53 #[v,x.val] w fun e w'=>((e=.returned (.int .i64 (-1))∧decide (x ∈ l)=false)∨∃ m:Nat,e=.returned (.int .i64 m)∧decide (x ∈ l)=true∧m<1048576)∧Ext w w':=by
 obtain ⟨p,cap,rfl,hcap,hi⟩:=h;obtain ⟨n,hn⟩:∃ n,l.length=n:=⟨_,rfl⟩;have HN:Hid (l.length=n):=hn;rw [hn] at hL hcap hi ⊢;have HI:Hid (0<n→∃ b,p=some ⟨b,0,none⟩∧∀ (i:Nat) (x:Ar),l[i]?=some x→∀ (c:Nat) (u:Value),(cellsA x)[c]?=some u→w.cell? ⟨b,i * 8+c,none⟩=some u):=hi;have HY:Hid (∀ (k:Nat),l[k]?=some x→decide (x ∈ l)=true):=fun k h=>decide_eq_true (List.mem_of_getElem? h);have HX:Hid ((∀ (j:Nat) t,l[j]?=some t→x ≠ t)→decide (x ∈ l)=false):=fun h=>decide_eq_false (fun hm=>by obtain ⟨j,hj⟩:=List.mem_iff_getElem?.1 hm;exact h j x hj rfl);obtain ⟨R,hR⟩:∃ R,decide (x ∈ l)=R:=⟨_,rfl⟩;rw [hR] at HY HX ⊢;clear hn hi hR;have XB:=x1 w (.cells (cellsA x).toArray 61);have VB:=vec_made w (cellsA x) 61;change Ext w (w.alloc (.cells #[.int .i64 x.1,.int .i64 x.2.1,.bool false,.bool false,.int .i64 x.2.2.1,.int .i64 x.2.2.2,.bool false,.bool false] 61)) at XB;change Vec (w.alloc (.cells #[.int .i64 x.1,.int .i64 x.2.1,.bool false,.bool false,.int .i64 x.2.2.1,.int .i64 x.2.2.2,.bool false,.bool false] 61)) _ _ at VB;obtain ⟨wa,ha⟩:∃ q,w.alloc (.cells #[.int .i64 x.1,.int .i64 x.2.1,.bool false,.bool false,.int .i64 x.2.2.1,.int .i64 x.2.2.2,.bool false,.bool false] 61)=q:=⟨_,rfl⟩;have HA:Hid (w.alloc (.cells #[.int .i64 x.1,.int .i64 x.2.1,.bool false,.bool false,.int .i64 x.2.2.1,.int .i64 x.2.2.2,.bool false,.bool false] 61)=wa):=ha;rw [ha] at XB VB;clear ha;obtain ⟨bx,hbx⟩:∃ q,w.heap.size=q:=⟨_,rfl⟩;rw [hbx] at VB;have HVB:Hid (Vec wa bx (cellsA x)):=VB;clear VB;go_enter Tryz.func53,Tryz.ntmps53;go_wp2_with fail;rw [HA.out];clear hbx HA;go_loopw [8] (fun i wr=>∃ k:Nat,k≤n∧i=.int .i64 k∧Ext wa wr∧Hid (∀ (j:Nat) t,j<k→l[j]?=some t→x ≠ t)) (fun i _=>n - (intOf i).toNat)
 case atStart=>exact ⟨0,by omega,rfl,xr _,fun j t hj=>by omega⟩
 case round =>
  obtain ⟨k,hk,rfl,X,HU⟩:=hrel;by_cases hlt:k<n
  ·obtain ⟨t,ht⟩:∃ t,l[k]?=some t:=⟨_,List.getElem?_eq_getElem (by rw [HN.out];exact hlt)⟩;obtain ⟨b,rfl,hc⟩:=HI.out (by omega);have XW:=xt XB X;have a0:wr.cell? ⟨b,k * 8,none⟩=some (.int .i64 t.1):=cell_later XW (hc k t ht 0 _ rfl);have a1:=cell_later XW (hc k t ht 1 _ rfl);have a2:=cell_later XW (hc k t ht 2 _ rfl);have a3:=cell_later XW (hc k t ht 3 _ rfl);have a4:=cell_later XW (hc k t ht 4 _ rfl);have a5:=cell_later XW (hc k t ht 5 _ rfl);have a6:=cell_later XW (hc k t ht 6 _ rfl);have a7:=cell_later XW (hc k t ht 7 _ rfl);have VB:=HVB.out.later X;have c0:=(VB 0 _ rfl).1;have c1:=(VB 1 _ rfl).1;have c2:=(VB 2 _ rfl).1;have c3:=(VB 3 _ rfl).1;have c4:=(VB 4 _ rfl).1;have c5:=(VB 5 _ rfl).1;have c6:=(VB 6 _ rfl).1;have c7:=(VB 7 _ rfl).1;have i2:(k:Int)<(n:Int):=by omega
   have i1:(0:Int)≤(k:Int):=by omega
   have KN:=fun W=>ar_eql x t W;obtain ⟨d,hd⟩:∃ d,decide (x=t)=d:=⟨_,rfl⟩;simp only [hd] at KN;clear hc VB;cases d
   ·have HU2:Hid (∀ (j:Nat) t,j<k+1→l[j]?=some t→x ≠ t):=fun j t' hj h=>by
     rcases Nat.lt_or_ge j k with hjk | hjk
     ·exact HU.out j t' hjk h
     ·obtain rfl:j=k:=(by omega);rw [ht] at h;cases h;exact of_decide_eq_false hd
    clear HU ht hd;go_wp2_with fail;go_quiet (fail);go_wp2_with fail;go_roundw
    case rel=>exact ⟨k+1,by omega,by go_num,xdNA X _,HU2⟩
    case measure=>simp [intOf];omega
   ·obtain rfl:=of_decide_eq_true hd;have HT:Hid (R=true):=HY.out k ht;clear HU ht hd;go_wp2_with fail;go_quiet (fail);go_wp2_with fail;go_ret;exact ⟨Or.inr ⟨k,rfl,HT.out,by omega⟩,xt XB (xdNA X _)⟩
  ·obtain rfl:k=n:=by omega
   have HT:Hid (R=false):=HX.out (fun j t h=>HU.out j t (by have:=(List.getElem?_eq_some_iff.1 h).1;rw [HN.out] at this;exact this) h);clear HU;go_wp2_with fail;go_ret;exact ⟨Or.inl ⟨rfl,HT.out⟩,xt XB X⟩
set_option maxRecDepth 8000 in
set_option maxHeartbeats 4000000 in
theorem containsA (v:Value) (l:List Ar) (x:Ar) (w:World) (h:AreasIn w v l) (hL:l.length≤1048576) :
  Calls Tryz.prog 31 #[v,x.val] w fun e w'=>e=.returned (.bool (decide (x ∈ l)))∧Ext w w':=by
 have C0:=fun W (X:Ext w W)=>indexA v l x W (h.later X) hL;obtain ⟨pk,nk,rfl,_,_⟩:=h;obtain ⟨R,hR⟩:∃ R,decide (x ∈ l)=R:=⟨_,rfl⟩;rw [hR] at C0 ⊢;obtain ⟨n,hn⟩:∃ n,l.length=n:=⟨_,rfl⟩;rw [hn] at C0 hL ⊢;clear hR hn;have XB:=x1 w (.cells (cellsA x).toArray 61);have VB:=vec_made w (cellsA x) 61;change Ext w (w.alloc (.cells #[.int .i64 x.1,.int .i64 x.2.1,.bool false,.bool false,.int .i64 x.2.2.1,.int .i64 x.2.2.2,.bool false,.bool false] 61)) at XB;change Vec (w.alloc (.cells #[.int .i64 x.1,.int .i64 x.2.1,.bool false,.bool false,.int .i64 x.2.2.1,.int .i64 x.2.2.2,.bool false,.bool false] 61)) _ _ at VB;have c0:=(VB 0 _ rfl).1;have c1:=(VB 1 _ rfl).1;have c2:=(VB 2 _ rfl).1;have c3:=(VB 3 _ rfl).1;have c4:=(VB 4 _ rfl).1;have c5:=(VB 5 _ rfl).1;have c6:=(VB 6 _ rfl).1;have c7:=(VB 7 _ rfl).1;clear VB;go_enter Tryz.func31,Tryz.ntmps31;go_wp2_with fail;refine (C0 _ XB).mono ?_;rintro e w1 ⟨⟨rfl,rfl⟩ | ⟨m,rfl,rfl,hm⟩,e1⟩
 ·go_wp2_with fail;go_ret;exact ⟨rfl,xt XB e1⟩
 ·have m0:(0:Int)≤(m:Int):=by omega
  have m1:decide ((m:Int) ≥ 0)=true:=decide_eq_true m0;go_wp2_with fail;go_ret;exact ⟨rfl,xt XB e1⟩
end Go.Proofs.YtcjjobciokfehaaGreatDoor

