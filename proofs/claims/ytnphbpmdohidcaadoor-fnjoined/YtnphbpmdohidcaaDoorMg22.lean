/-
  Several texts in one: Qh, J11.
-/
import Derived.Test.YtnphbpmdohidcaaDoorMg20
import Derived.Test.YtnphbpmdohidcaaDoorMg21
namespace Go.Proofs.YtnphbpmdohidcaaDoor
open Go.RowKit
theorem cmpSQ (a b:VT) (w:World) (hl:a.t.length≤2000000) (hl':b.t.length≤2000000) (ga:a.good=true) (gb:b.good=true) (h4:a.k ≠ 4) (h4':b.k ≠ 4) :
  Calls Tryd.prog 32 #[a.val,b.val] w fun e w'=>e=.returned (.int .i64 (cmpQ a b))∧Ext w w':=by
 obtain ⟨k,n,d,x,t⟩:=a;obtain ⟨k',n',d',x',t'⟩:=b;obtain ⟨v1,z1⟩:=beside_eq (k:=k) (n:=n) (d:=d) (x:=x) (t:=t) ga k';obtain ⟨v2,z2⟩:=beside_eq (k:=k') (n:=n') (d:=d') (x:=x') (t:=t') gb k;have e:cmpQ ⟨k,n,d,x,t⟩ ⟨k',n',d',x',t'⟩=cmpR (bk k k') n d x (bt k t k') (bk k' k) n' d' x' (bt k' t' k):=by
  unfold cmpQ compareV;rw [if_pos ⟨ga,gb,h4,h4'⟩]
 rw [e];exact cmpS6 k n d x t k' n' d' x' t' w _ _ _ _ _ v1 z1 (bt_len k k' hl) _ _ _ _ _ v2 z2 (bt_len k' k hl')
set_option maxHeartbeats 1000000 in
theorem isErrQ (k:Int) (n:Bool) (d x:Int) (t:List UInt8) (w:World) :
  Calls Tryd.prog 31 #[valV k n d x t] w fun e w'=>e=.returned (.bool (decide (k=4)))∧Ext w w':=by
 have X:=x1 w (.cells #[.int .i64 k,.bool n,.int .i64 d,.int .i64 x,sV t] 46);by_cases h:k=4
 ·subst h;go_enter Tryd.func31,Tryd.ntmps31;go_wp2_with fail;go_ret;exact ⟨rfl,X⟩
 ·rw [show decide (k=4)=false by simpa using h];have hb:(k == 4)=false:=by simpa using h
  go_enter Tryd.func31,Tryd.ntmps31;go_wp2_with fail;go_ret;exact ⟨rfl,X⟩
set_option maxRecDepth 8000 in
set_option maxHeartbeats 2000000 in
theorem sameS (a b:VT) (w:World) (hl:a.t.length≤2000000) (hl':b.t.length≤2000000) (ga:a.good=true) (gb:b.good=true) :
  Calls Tryd.prog 18 #[a.val,b.val] w fun e w'=>e=.returned (.bool (likeB a b))∧Ext w w':=by
 have CM:a.k=b.k→a.k ≠ 4→Hid (∀ W,Calls Tryd.prog 32 #[a.val,b.val] W fun e w'=>e=.returned (.int .i64 (cmpQ a b))∧Ext W w'):=fun hk h4 W=>cmpSQ a b W hl hl' ga gb h4 (hk ▸ h4);have HL:Hid (likeB a b=(decide (a.k=b.k) && (if a.k=4 then sameQ a b else decide (cmpQ a b=0)))):=rfl;obtain ⟨k,n,d,x,t⟩:=a;obtain ⟨k',n',d',x',t'⟩:=b;obtain ⟨u0,u1,h0,h1,s0,s1,B0,B1,X⟩:=mkB2 w (valL k n d x t) (valL k' n' d' x' t') 46 46;have EQ:=fun W=>valQ_eql k n d x t k' n' d' x' t' W;obtain ⟨S,hS⟩:∃ S,sameQ ⟨k,n,d,x,t⟩ ⟨k',n',d',x',t'⟩=S:=⟨_,rfl⟩;obtain ⟨R,hR⟩:∃ R,cmpQ ⟨k,n,d,x,t⟩ ⟨k',n',d',x',t'⟩=R:=⟨_,rfl⟩;obtain ⟨Q,hQ⟩:∃ Q,likeB ⟨k,n,d,x,t⟩ ⟨k',n',d',x',t'⟩=Q:=⟨_,rfl⟩;rw [hS] at EQ HL;rw [hR] at CM HL;rw [hQ] at HL ⊢;simp only at CM HL;clear hS hR hQ ga gb hl hl';obtain ⟨a0,a1,a2,a3,a4⟩:=Vec.five B0;obtain ⟨b0,b1,b2,b3,b4⟩:=Vec.five B1;by_cases hk:k=k'
 ·subst hk;have CE:=fun W=>isErrQ k n d x t W;by_cases h4:k=4
  ·have HF:Hid (S=Q):=by show _=_;rw [HL.out,if_pos h4];simp
   subst h4;go_enter Tryd.func18,Tryd.ntmps18;go_wp2_with (go_at_call 31;refine (CE u1).mono ?_;rintro e w1 ⟨rfl,e1⟩;obtain ⟨a0,a1,a2,a3,a4⟩:=Vec.five (B0.later e1);obtain ⟨b0,b1,b2,b3,b4⟩:=Vec.five (B1.later e1));go_ret;exact ⟨ret_bool HF.out,xt X e1⟩
  ·have HF:Hid (decide (R=0)=Q):=by show _=_;rw [HL.out,if_neg h4];simp
   have C0:=CM rfl h4;rw [decide_eq_false h4] at CE;by_cases hR:R=0
   ·subst hR;go_enter Tryd.func18,Tryd.ntmps18;go_wp2_with (first
     | (go_at_call 31;refine (CE u1).mono ?_;rintro e w1 ⟨rfl,e1⟩;obtain ⟨a0,a1,a2,a3,a4⟩:=Vec.five (B0.later e1);obtain ⟨b0,b1,b2,b3,b4⟩:=Vec.five (B1.later e1))
     | (go_at_call 32;refine (C0.out w1).mono ?_;rintro e w2 ⟨rfl,e2⟩))
    go_ret;exact ⟨ret_bool HF.out,xt X (xt e1 e2)⟩
   ·have hRb:(R == 0)=false:=(by simpa using hR);have HF:Hid (false=Q):=(by show _=_;rw [← HF.out,decide_eq_false hR]);go_enter Tryd.func18,Tryd.ntmps18;go_wp2_with (first
     | (go_at_call 31;refine (CE u1).mono ?_;rintro e w1 ⟨rfl,e1⟩;obtain ⟨a0,a1,a2,a3,a4⟩:=Vec.five (B0.later e1);obtain ⟨b0,b1,b2,b3,b4⟩:=Vec.five (B1.later e1))
     | (go_at_call 32;refine (C0.out w1).mono ?_;rintro e w2 ⟨rfl,e2⟩))
    go_ret;exact ⟨ret_bool HF.out,xt X (xt e1 e2)⟩
 ·have hkb:(k == k')=false:=by simpa using hk
  have HF:Hid (false=Q):=by show _=_;rw [HL.out,decide_eq_false hk];rfl
  go_enter Tryd.func18,Tryd.ntmps18;go_wp2_with fail;go_ret;exact ⟨ret_bool HF.out,X⟩
theorem vals_src {w:World} {v:Value} {l:List VT} (h:ValsIn w v l):Src Tryd.prog 5 23 v l.length (flatV l) w:=by
 obtain ⟨p,cap,rfl,hcap,hi⟩:=h;cases p with
 | none =>
  have h0:l.length=0:=by
   rcases Nat.eq_zero_or_pos l.length with h | h
   ·exact h
   ·obtain ⟨b,o,e,_⟩:=hi h;cases e
  have:l=[]:=List.eq_nil_of_length_eq_zero h0;subst this;exact Src.ofNil _ Tryd.underlying23 cap
 | some a =>
  refine Src.ofSlice (size:=5) _ Tryd.underlying23 a l.length cap (flatV l) (flatV_length l) (fun j u hj=>?_) (fun u hu=>?_)
  ·have hjl:j<(flatV l).length:=(List.getElem?_eq_some_iff.1 hj).1;rw [flatV_length] at hjl;have hil:j / 5<l.length:=by omega
   obtain ⟨e,he⟩:∃ e,l[j / 5]?=some e:=⟨_,List.getElem?_eq_getElem hil⟩;have hc:=flatV_at he (j % 5) (by omega);rw [show j / 5 * 5+j % 5=j by omega,hj] at hc;obtain ⟨b,o,e',hR⟩:=hi (by omega);cases e';have:=hR (j / 5) e he (j % 5) u hc.symm;rw [Addr.add_lit,show o+j=o+j / 5 * 5+j % 5 by omega];exact this
  ·obtain ⟨j,hj,rfl⟩:=List.getElem_of_mem hu;rw [flatV_length] at hj;obtain ⟨e,he⟩:∃ e,l[j / 5]?=some e:=⟨_,List.getElem?_eq_getElem (by omega)⟩;have hc:=flatV_at he (j % 5) (by omega);rw [show j / 5 * 5+j % 5=j by omega,List.getElem?_eq_getElem (by rw [flatV_length];exact hj)] at hc;have h5:j % 5<5:=by omega
   generalize j % 5=q at hc h5
   match q,h5,hc with
   | 0,_,hc=>rw [Option.some.inj (show some _=some _ from hc)];rfl
   | 1,_,hc=>rw [Option.some.inj (show some _=some _ from hc)];rfl
   | 2,_,hc=>rw [Option.some.inj (show some _=some _ from hc)];rfl
   | 3,_,hc=>rw [Option.some.inj (show some _=some _ from hc)];rfl
   | 4,_,hc=>rw [Option.some.inj (show some _=some _ from hc)];rfl
theorem app_vals (w:World) (base:Nat) (v:Value) (l:List VT) (O:OwnW w base v l) (u:Value) (m:List VT) (V:ValsIn w u m) (hl:l.length+m.length≤100000000) (hb:base≤w.heap.size) :
  ∃ v' w',(Builtin.append_ #[23,23] 23 #[v,u]).run Tryd.prog w=.ok v' w'∧OwnW w' base v' (l++m)∧w.grownBy w' v.ownBlock:=by
 obtain ⟨inf,hi,hz,hsz,hby⟩:=infoVT;obtain ⟨v',w',hrun,O',GW,_⟩:=app_srcG (P:=Tryd.prog) w base 23 23 23 46 inf _ Tryd.underlying23 hi hz 5 hsz (by rw [hby];omega) rfl v l.length _ O u m.length _ (vals_src V) (by omega) hb;refine ⟨v',w',hrun,?_,GW⟩;show World.ownsRow _ _ _ _ _ _ _;rw [List.length_append,flatV_append];exact O'
theorem vals_sub {w:World} {b o N cap:Nat} {l:List VT} (h:RowV w b o l) (hN:l.length=N) (hc:N≤cap) {i n:Nat} (hi:i+n≤N):ValsIn w (.slice (some ⟨b,o+i * 5,none⟩) n (cap - i)) ((List.range n).map fun j=>cel l (i+j)):=by
 have hlen:((List.range n).map fun j=>cel l (i+j)).length=n:=by simp
 refine ⟨_,cap - i,by rw [hlen],by rw [hlen];omega,fun _=>⟨b,o+i * 5,rfl,fun k e hk c u hu=>?_⟩⟩;have hkn:k<n:=by have:=(List.getElem?_eq_some_iff.1 hk).1;simpa using this
 have he:cel l (i+k)=e:=by
  rw [List.getElem?_map,List.getElem?_range hkn] at hk;exact Option.some.inj hk
 have:=h (i+k) e (by rw [cel_at (by rw [hN];omega),he]) c u hu;rw [show o+i * 5+k * 5+c=o+(i+k) * 5+c by omega];exact this
theorem flat_len {α:Type} {f:α→List VT} (l:List α) (m:Nat) (h:∀ x,(f x).length≤m):(l.flatMap f).length≤l.length * m:=by
 induction l with
 | nil=>simp
 | cons a l ih =>
  rw [List.flatMap_cons,List.length_append,List.length_cons,Nat.add_mul,Nat.one_mul];have:=h a;omega
theorem rows_le {x RA k RB:Nat} (h1:x<RA) (h2:k<RB):x * RB+k≤RA * RB:=by
 have:=Nat.mul_le_mul_right RB (show x+1≤RA by omega);rw [Nat.add_mul,Nat.one_mul] at this;omega
theorem pairs_room {RA CA RB CB na nb n:Nat} (h3:2≤CB) (hca:1≤CA) (ha:RA * CA=na) (hb:RB * CB=nb) (hna:na≤2000) (hnb:nb≤2000) (hn:n≤RA * RB):n * (CA+CB)≤20000000:=by
 have e1:n * (CA+CB)≤RA * RB * (CA+CB):=Nat.mul_le_mul_right _ hn;have e2:RA * RB * (CA+CB)=RB * (RA * CA)+RA * (RB * CB):=by
  rw [Nat.mul_add]
  congr 1
  ·rw [Nat.mul_comm RA RB,Nat.mul_assoc]
  ·rw [Nat.mul_assoc]
 have r1:RB≤nb:=by rw [← hb];exact Nat.le_mul_of_pos_right _ (by omega)
 have r2:RA≤na:=by rw [← ha];exact Nat.le_mul_of_pos_right _ (by omega)
 have e3:RB * na≤2000 * 2000:=Nat.mul_le_mul (by omega) (by omega);have e4:RA * nb≤2000 * 2000:=Nat.mul_le_mul (by omega) (by omega);rw [e2,ha,hb] at e1;omega
structure OutJ (w0:World) (d:Nat) (A B:List Value) (n C:Nat) (l:List VT) (p:Option Addr) (cc:Nat) (wr:World):Prop where
 ext:Ext w0 wr
 dd:w0.heap.size+1+1<d
 sz:d+1≤wr.heap.size
 va:Vec wr w0.heap.size A
 vb:Vec wr (w0.heap.size+1) B
 vz:Vec wr (w0.heap.size+1+1) [.int .i64 0,.int .i64 0,.slice none 0 0]
 vo:Vec wr (d) [.int .i64 (n:Int),.int .i64 (C:Int),.slice p l.length cc]
 ow:OwnW wr (d+1) (.slice p l.length cc) l
theorem OutJ.later {w0 wr w':World} {d:Nat} {A B:List Value} {n C:Nat} {l:List VT} {p:Option Addr} {cc:Nat} (h:OutJ w0 d A B n C l p cc wr) (x:Ext wr w'):OutJ w0 d A B n C l p cc w':=
 ⟨xt h.ext x,h.dd,Nat.le_trans h.sz x.size,h.va.later x,h.vb.later x,h.vz.later x,h.vo.later x,ownW_later h.ow x⟩
theorem OutJ.count {w0 wr:World} {d:Nat} {A B:List Value} {n C:Nat} {l:List VT} {p:Option Addr} {cc:Nat} (h:OutJ w0 d A B n C l p cc wr) (m:Nat):OutJ w0 d A B m C l p cc (wr.setCell ⟨d,0,none⟩ (.int .i64 (m:Int))):=
 ⟨xset h.ext (p:=⟨d,0,none⟩) (by have:=h.dd;show _≤d;omega) _,h.dd,by rw [World.size_setCell];exact h.sz,h.va.far (p:=⟨d,0,none⟩) (by have:=h.dd;show d ≠ _;omega) _,h.vb.far (p:=⟨d,0,none⟩) (by have:=h.dd;show d ≠ _;omega) _,h.vz.far (p:=⟨d,0,none⟩) (by have:=h.dd;show d ≠ _;omega) _,h.vo.put 0 (by simp) _,ownW_far h.ow (p:=⟨d,0,none⟩) (by show d<_;omega) _⟩
theorem OutJ.grow {w0 wr w':World} {d:Nat} {A B:List Value} {n C:Nat} {l l':List VT} {p p':Option Addr} {cc cc':Nat} (h:OutJ w0 d A B n C l p cc wr) (G:wr.grownBy w' (Value.slice p l.length cc).ownBlock) (O:OwnW w' (d+1) (.slice p' l'.length cc') l') :
  OutJ w0 d A B n C l' p' cc' (w'.setCell ⟨d,2,none⟩ (.slice p' l'.length cc')):=by
 have hb:=ownW_block h.ow;have hdd:=h.dd;have X:Ext w0 w':=ext_grownJ h.ext G (fun k hk=>by have:=hb k hk;omega);have ne:∀ b,b<d+1→some b ≠ (Value.slice p l.length cc).ownBlock:=fun b h q=>by have:=hb b q.symm;omega
 have vo:=vec_keep h.vo G (ne _ (by omega));exact ⟨xset X (p:=⟨d,2,none⟩) (by show _≤d;omega) _,h.dd,by rw [World.size_setCell];exact Nat.le_trans h.sz G.size,(vec_keep h.va G (ne _ (by omega))).far (p:=⟨d,2,none⟩) (by have:=h.dd;show d ≠ _;omega) _,(vec_keep h.vb G (ne _ (by omega))).far (p:=⟨d,2,none⟩) (by have:=h.dd;show d ≠ _;omega) _,(vec_keep h.vz G (ne _ (by omega))).far (p:=⟨d,2,none⟩) (by have:=h.dd;show d ≠ _;omega) _,vo.put 2 (by simp) _,ownW_far O (p:=⟨d,2,none⟩) (by show d<_;omega) _⟩
end Go.Proofs.YtnphbpmdohidcaaDoor

