/-
  Several texts in one: Uc, Ud, Qh, Ue, Uf, Ug.
-/
import Derived.Test.YtiaakhogigddbaaGreatDoorMg13
import Derived.Test.YtiaakhogigddbaaGreatDoorMg12
import Derived.Test.YtiaakhogigddbaaGreatDoorMg4
namespace Go.Proofs.YtiaakhogigddbaaGreatDoor
open Go.RowKit
set_option maxRecDepth 8000 in
set_option maxHeartbeats 4000000 in
theorem lawFilter (r c:Int) (v:Value) (l:List VT) (x:Int) (op:List UInt8) (b':VT) (q:VT→Bool) (w:World) (h:ValsIn w v l) (hl:l.length≤9223372036854775807) (ht:∀ e ∈ l,e.t.length≤9223372036854775807) (hd:∀ e ∈ l,-9223372036854775808≤e.d∧e.d≤9223372036854775807) (hT:Tens w) (hE:ErrTab w)
  (x1' : -9223372036854775808≤x) (x2':x≤9223372036854775807) (ho:op.length≤9223372036854775807) (hb:b'.t.length≤9223372036854775807)
  (HMM:op.length≤1048576→(∀ e ∈ l,e.t.length≤1048576)→b'.t.length≤1048576→MeetsFrom w 26 l op b' q∧MeetsFrom w 22 l op b' q) :
  Calls Tryz.prog 3 #[grV r c v,.int .i64 x,sV op,b'.val] w fun e w'=>e=.returned (.bool true)∧Ext w w':=by
 obtain ⟨bk,bn,bd,bx,bt⟩:=b';obtain ⟨OL,hOL⟩:∃ OL,op.length=OL:=⟨_,rfl⟩;have hsz:(⟨op.toArray⟩:ByteArray).size=OL:=hOL;rw [hOL] at ho HMM;obtain ⟨pv,nv,hv⟩:∃ p n,v=.slice p l.length n:=by obtain ⟨p,n,h,_⟩:=h;exact ⟨p,n,h⟩
 subst hv;obtain ⟨u0,u1,h0,h1,s0,s1,B0,C0,X0⟩:=mkB2 w [.int .i64 r,.int .i64 c,.slice pv l.length nv] (valL bk bn bd bx bt) 24 28;obtain ⟨a0,a1,a2⟩:=Vec.three B0;clear hOL;by_cases hbig:(1048576:Int)<OL
 ·clear hT hE HMM;go_enter Tryz.func3,Tryz.ntmps3;go_wp2_with fail;go_ret;exact ⟨rfl,X0⟩
 have hb1:¬ (1048576:Int)<OL:=hbig;go_enter Tryz.func3,Tryz.ntmps3;go_wp2_with fail;clear h0 h1 a0 a1 a2;refine (szGridL r c _ l 1048576 u1 (h.later X0) (by omega) (by omega) hl ht).mono ?_;rintro e w1 ⟨⟨z,rfl,z0,z1,hz⟩,e1⟩;have X1:=xt X0 e1;by_cases hn:z<0
 ·clear hz B0 C0 hT hE;go_wp2_with fail;go_ret;exact ⟨rfl,X1⟩
 obtain ⟨hl1,ht1⟩:=hz (by omega);have hl2:l.length≤1048576:=by omega
 have ht2:∀ e ∈ l,e.t.length≤1048576:=fun e he=>by have:=ht1 e he;omega
 have hr:∀ e ∈ l,e.room:=fun e he=>⟨by have:=ht2 e he;omega,hd e he⟩;have hz9:decide (z<0)=false:=by simpa using hn
 have B1:=B0.later e1;have C1:=C0.later e1;obtain ⟨a0,a1,a2,a3,a4⟩:=Vec.five C1;clear hl ht hl1 ht1 hz hd B0 C0;go_wp2_with fail;clear a0 a1 a2 a3 a4;refine (szValue bk bn bd bx bt z w1 (by omega) (by omega) (by have:bt.length≤9223372036854775807:=hb;omega)).mono ?_;rintro e w2 ⟨rfl,e2⟩;have X2:=xt X1 e2;obtain ⟨y,hy⟩:∃ y:Int,(if z<bt.length then -1 else z - bt.length)=y:=⟨_,rfl⟩;rw [hy];by_cases hn2:y<0
 ·clear B1 C1 hT hE;go_wp2_with fail;go_ret;exact ⟨rfl,X2⟩
 have hbt:bt.length≤1048576:=by
  by_cases hc:z<bt.length
  ·rw [if_pos hc] at hy;omega
  ·omega
 have hy9:decide (y<0)=false:=by simpa using hn2
 obtain ⟨MI,MS⟩:=HMM (by omega) ht2 hbt;obtain ⟨NN,hNN⟩:∃ NN,l.length=NN:=⟨_,rfl⟩;have HV:Hid (ValsIn w (.slice pv NN nv) l):=by rw [← hNN];exact h
 have TG:Hid (∀ W,Ext w W→Calls Tryz.prog 8 #[grV r c (.slice pv NN nv)] W fun e w'=>(∃ g,e=.returned (grV r c (.slice (some ⟨g,0,none⟩) NN NN))∧W.heap.size≤g∧OwnV w' g l)∧Ext W w'):=fun W hW=>by have:=toGridL r c _ l W (HV.out.later hW) (by omega);rw [hNN] at this;exact this
 have TV:Hid (∀ W,Calls Tryz.prog 9 #[valV bk bn bd bx bt] W fun e w'=>e=.returned (valV bk bn bd bx bt)∧Ext W w'):=fun W=>toValue bk bn bd bx bt W;have CS:Hid (∀ W g,Ext w W→OwnV W g l→Calls Tryz.prog 7 #[grV r c (.slice (some ⟨g,0,none⟩) NN NN),.int .i64 x,sV op,valV bk bn bd bx bt] W fun e w'=>∃ ans,e=.returned ans∧AnsI W w' ans (filterR r c l x q)):=fun W g hW O=>filterS r c _ l x op ⟨bk,bn,bd,bx,bt⟩ q W (by have:=O.vals;rw [hNN] at this;exact this) hl2 hr x1' x2' (fun W' e hX he=>MS W' e (xt hW hX) he);have CI:Hid (∀ W g,Ext w W→OwnV W g l→Calls Tryz.prog 10 #[grV r c (.slice (some ⟨g,0,none⟩) NN NN),.int .i64 x,sV op,valV bk bn bd bx bt] W fun e w'=>∃ ans,e=.returned ans∧AnsI W w' ans (filterR r c l x q)):=fun W g hW O=>filterI r c _ l x op ⟨bk,bn,bd,bx,bt⟩ q W (by have:=O.vals;rw [hNN] at this;exact this) hl2 hr (hT.later hW) (hE.later hW) x1' x2' (fun W' e hX he=>MI W' e (xt hW hX) he);have EG:Hid (∀ W g g',OwnV W g l→OwnV W g' l→Calls Tryz.prog 12 #[grV r c (.slice (some ⟨g,0,none⟩) NN NN),grV r c (.slice (some ⟨g',0,none⟩) NN NN)] W fun e w'=>e=.returned (.bool true)∧Ext W w'):=fun W g g' O O'=>eqGridL r c _ _ l W (by have:=O.vals;rw [hNN] at this;exact this) (by have:=O'.vals;rw [hNN] at this;exact this) (by omega);have rl:(filterR r c l x q).length≤2000:=rowsR_le;obtain ⟨RR,hRR⟩:∃ RR,filterR r c l x q=RR:=⟨_,rfl⟩;rw [hRR] at CS CI rl;obtain ⟨LL,hLL⟩:∃ LL,RR.length=LL:=⟨_,rfl⟩;have HLL:Hid (RR.length=LL):=hLL;have HNN:Hid (l.length=NN):=hNN;have B2:=B1.later e2;have C2:=C1.later e2;rw [hNN] at B2 hl2 ⊢;rw [hLL] at rl;have s2:w.heap.size+1<w2.heap.size:=by have:=X2.size;have:=(xt e1 e2).size;omega
 clear hT hE h hr X0 X1 e1 e2 hRR hNN hLL MI MS HMM ht2 B1 C1 hy hbt s0 s1;go_wp2_with fail;refine wp_region_letters (fun lx:Nat→Value=>{ tmps:=#[grV r c (Value.slice pv NN nv),Value.int .i64 x,sV op,VT.val ⟨bk,bn,bd,bx,bt⟩,Value.pointer (some ⟨w.heap.size,0,none⟩),undef,undef,Value.pointer (some ⟨w.heap.size+1,0,none⟩),Value.bool false,Value.int .i64 y,lx 10,undef,undef,undef,undef,undef,undef,sV op,Value.int .i64 (OL:Int),Value.bool false,Value.agg #[Value.int .i64 r,Value.int .i64 c,Value.slice pv NN nv],Value.int .i64 1048576,Value.int .i64 z,Value.int .i64 z,Value.bool false,Value.agg #[Value.int .i64 bk,Value.bool bn,Value.int .i64 bd,Value.int .i64 bx,sV bt],Value.int .i64 z,Value.int .i64 y,Value.int .i64 y,Value.bool false,lx 30,lx 31,lx 32,lx 33,lx 34,lx 35,lx 36,undef,undef,undef,undef,undef,undef,undef,undef,undef,undef,undef,undef,undef,undef,undef,undef,undef,undef,undef,undef,undef,undef,undef,undef,undef,undef,undef,undef,undef,undef,undef,undef,undef,undef,undef,undef,undef,undef,undef,undef,undef,undef,undef,undef,undef,undef,undef,undef,undef,undef,undef,undef,undef,undef,undef,undef,undef,undef],defers:=[] }) (fun L lx lw=>Hid (Ext w2 lw∧Vec lw (w.heap.size) [.int .i64 r,.int .i64 c,.slice pv NN nv]∧Vec lw (w.heap.size+1) [.int .i64 bk,.bool bn,.int .i64 bd,.int .i64 bx,sV bt]∧(L 0=true→lx 30=grV r c (.slice pv NN nv))∧(L 1=true→∃ gg,lx 31=grV r c (.slice (some ⟨gg,0,none⟩) NN NN)∧OwnV lw gg l)∧(L 2=true→lx 32=.int .i64 x)∧(L 3=true→lx 33=sV op)∧(L 4=true→lx 34=valV bk bn bd bx bt)∧(L 5=true→lx 35=valV bk bn bd bx bt)∧(L 6=true→∃ pp cc,lx 36=.slice pp LL cc∧(L 7=true→lx 10=.slice pp LL cc)∧NumsAt lw (.slice pp LL cc) RR∧(0<LL→∀ g,(Value.slice pp LL cc).ownBlock=some g→w2.heap.size≤g))∧(L 7=true→L 6=true))) rfl (by kernel_rfl) (fun jj=>undef) rfl ?_ ?_ ?_
 ·exact ⟨xd (xr w2),B2.later (xd (xr _)),C2.later (xd (xr _)),(fun h=>by cases h),(fun h=>by cases h),(fun h=>by cases h),(fun h=>by cases h),(fun h=>by cases h),(fun h=>by cases h),(fun h=>by cases h),(fun h=>by cases h)⟩
 ·intro L lx wl i o K hK ho hL haf hI;obtain ⟨X,f0,f1,f2,f3,f4,f5,f6,f7,f8,f9⟩:=hI.out
  match i,ho,hL,haf,hK with
  | 0,ho,hL,haf,hK =>
   cases ho
   (try dsimp only)
   have a0:=(f0 0 _ rfl).1;have a1:=(f0 1 _ rfl).1;have a2:=(f0 2 _ rfl).1;go_wp2_with fail;exact hK (fun jj=>if jj=30 then grV r c (.slice pv NN nv) else lx jj) _ ⟨X,(f0),(f1),(fun _=>rfl),(f3),(f4),(f5),(f6),(f7),(f8),(f9)⟩
  | 1,ho,hL,haf,hK =>
   cases ho
   (try dsimp only)
   rw [f2 (haf ⟨0,.data⟩ (by simp) rfl)];go_wp2_with fail;refine (TG.out wl (xt X2 X)).mono ?_;rintro rr w' ⟨⟨gg,rfl,hgg,OO⟩,E⟩;go_wp2_with fail;exact hK (fun jj=>if jj=31 then grV r c (.slice (some ⟨gg,0,none⟩) NN NN) else if jj=30 then grV r c (.slice pv NN nv) else lx jj) _ ⟨xt X E,(f0.later E),(f1.later E),(fun _=>rfl),(fun _=>⟨gg,rfl,OO⟩),(f4),(f5),(f6),(f7),(fun a=>by obtain ⟨pp,cc,h1,h2,h3,h4⟩:=f8 a;exact ⟨pp,cc,h1,h2,h3.later E,h4⟩),(f9)⟩
  | 2,ho,hL,haf,hK =>
   cases ho
   (try dsimp only)
   go_wp2_with fail;exact hK (fun jj=>if jj=32 then .int .i64 x else lx jj) _ ⟨X,(f0),(f1),(f2),(f3),(fun _=>rfl),(f5),(f6),(f7),(f8),(f9)⟩
  | 3,ho,hL,haf,hK =>
   cases ho
   (try dsimp only)
   go_wp2_with fail;exact hK (fun jj=>if jj=33 then sV op else lx jj) _ ⟨X,(f0),(f1),(f2),(f3),(f4),(fun _=>rfl),(f6),(f7),(f8),(f9)⟩
  | 4,ho,hL,haf,hK =>
   cases ho
   (try dsimp only)
   have a0:=(f1 0 _ rfl).1;have a1:=(f1 1 _ rfl).1;have a2:=(f1 2 _ rfl).1;have a3:=(f1 3 _ rfl).1;have a4:=(f1 4 _ rfl).1;go_wp2_with fail;exact hK (fun jj=>if jj=34 then valV bk bn bd bx bt else lx jj) _ ⟨X,(f0),(f1),(f2),(f3),(f4),(f5),(fun _=>rfl),(f7),(f8),(f9)⟩
  | 5,ho,hL,haf,hK =>
   cases ho
   (try dsimp only)
   rw [f6 (haf ⟨4,.data⟩ (by simp) rfl)];go_wp2_with fail;refine (TV.out wl).mono ?_;rintro rr w' ⟨rfl,E⟩;go_wp2_with fail;exact hK (fun jj=>if jj=35 then valV bk bn bd bx bt else if jj=34 then valV bk bn bd bx bt else lx jj) _ ⟨xt X E,(f0.later E),(f1.later E),(f2),(fun a=>by obtain ⟨gg,h1,h2⟩:=f3 a;exact ⟨gg,h1,h2.later E⟩),(f4),(f5),(fun _=>rfl),(fun _=>rfl),(fun a=>by obtain ⟨pp,cc,h1,h2,h3,h4⟩:=f8 a;exact ⟨pp,cc,h1,h2,h3.later E,h4⟩),(f9)⟩
  | 6,ho,hL,haf,hK =>
   cases ho
   (try dsimp only)
   obtain ⟨gg,q1,OO⟩:=f3 (haf ⟨1,.data⟩ (by simp) rfl);rw [q1,f4 (haf ⟨2,.data⟩ (by simp) rfl),f5 (haf ⟨3,.data⟩ (by simp) rfl),f7 (haf ⟨5,.data⟩ (by simp) rfl)];have hst:L 7=true→False:=fun h=>by have:=f9 h;rw [hL] at this;cases this
   go_wp2_with fail;refine (CS.out wl gg (xt X2 X) OO).mono ?_;rintro rr w' ⟨ans,rfl,N1,N2,E⟩;obtain ⟨pp,cc,rfl⟩:∃ p n,ans=.slice p RR.length n:=by obtain ⟨p,n,h,_⟩:=N1;exact ⟨p,n,h⟩
   rw [HLL.out] at N1 N2 ⊢;go_wp2_with fail;exact hK (fun jj=>if jj=36 then .slice pp LL cc else if jj=31 then grV r c (.slice (some ⟨gg,0,none⟩) NN NN) else if jj=32 then .int .i64 x else if jj=33 then sV op else if jj=35 then valV bk bn bd bx bt else lx jj) _ ⟨xt X E,(f0.later E),(f1.later E),(f2),(fun _=>⟨gg,rfl,OO.later E⟩),(fun _=>rfl),(fun _=>rfl),(f6),(fun _=>rfl),(fun _=>⟨pp,cc,rfl,(fun h=>(hst h).elim),N1,fun h0 g hg=>Nat.le_trans X.size (N2 (by first | exact h0 | (rw [HLL.out];exact h0)) g hg)⟩),(fun _=>rfl)⟩
  | 7,ho,hL,haf,hK =>
   cases ho
   (try dsimp only)
   obtain ⟨pp,cc,h1,_,h3,h4⟩:=f8 (haf ⟨6,.data⟩ (by simp) rfl);rw [h1];go_wp2_with fail;exact hK (fun jj=>if jj=10 then .slice pp LL cc else if jj=36 then .slice pp LL cc else lx jj) _ ⟨X,(f0),(f1),(f2),(f3),(f4),(f5),(f6),(f7),(fun _=>⟨pp,cc,rfl,(fun _=>rfl),h3,h4⟩),(fun _=>haf ⟨6,.data⟩ (by simp) rfl)⟩
  | k+8,ho,_,_,_=>simp at ho
 ·intro L lx w3 hall hI;obtain ⟨XR,f0,f1,f2,f3,f4,f5,f6,f7,f8,f9⟩:=hI.out;clear hI;obtain ⟨gg1,qq1,_⟩:=f3 (hall 1 (by simp));obtain ⟨pp,cc,qf,qa,N1,N2⟩:=f8 (hall 6 (by simp))
  (try dsimp only)
  rw [f2 (hall 0 (by simp)),qq1,f4 (hall 2 (by simp)),f5 (hall 3 (by simp)),f6 (hall 4 (by simp)),f7 (hall 5 (by simp)),qf,qa (hall 7 (by simp))];clear hall f2 f3 f4 f5 f6 f7 f8 f9 qf qa qq1;have X3:=xt X2 XR;have B3:=f0;have C3:=f1;have S1:=N1;clear f0 f1;clear B2 C2 X2 N1 N2;obtain ⟨ps,hps⟩:∃ ps,ps=pp:=⟨_,rfl⟩;obtain ⟨cs,hcs⟩:∃ cs,cs=cc:=⟨_,rfl⟩;subst hps;subst hcs;have hsb:0<LL→∀ k,(Value.slice ps LL cs).ownBlock=some k→k<w3.heap.size:=fun h0=>S1.lt (by rw [HLL.out];exact h0);obtain ⟨a0,a1,a2⟩:=Vec.three B3;have s3:w.heap.size+1<w3.heap.size:=by have:=XR.size;omega
  clear XR;go_wp2_with fail;clear a0 a1 a2;refine (TG.out w3 X3).mono ?_;rintro e w4 ⟨⟨g2,rfl,hg2,O2⟩,e4⟩;have X4:=xt X3 e4;have hg2w:w.heap.size+1<g2:=by omega
  have w34:=e4.size;have D4:=vec_made w4 [.int .i64 r,.int .i64 c,.slice (some ⟨g2,0,none⟩) NN NN] 35;change Vec (w4.alloc (.cells #[.int .i64 r,.int .i64 c,.slice (some ⟨g2,0,none⟩) NN NN] 35)) _ _ at D4;have E5:=x1 w4 (.cells #[.int .i64 r,.int .i64 c,.slice (some ⟨g2,0,none⟩) NN NN] 35);go_wp2_with fail;obtain ⟨u4,hu4⟩:∃ u,w4.alloc (.cells #[.int .i64 r,.int .i64 c,.slice (some ⟨g2,0,none⟩) NN NN] 35)=u:=⟨_,rfl⟩;have S4s:u4.heap.size=w4.heap.size+1:=by rw [← hu4,World.size_alloc]
  rw [hu4] at D4 E5 ⊢;have g2l:g2<w4.heap.size∨NN=0:=by
   rcases Nat.eq_zero_or_pos NN with h | h
   ·exact Or.inr h
   ·left;obtain ⟨q,hq⟩:∃ q,l[0]?=some q:=⟨_,List.getElem?_eq_getElem (by rw [HNN.out];exact h)⟩;exact World.block_lt_of_cell? _ _ (O2 0 q hq 0 _ rfl).1
  have E4:=xt e4 E5;have X5:=xt X3 E4;have B5:=B3.later E4;have C5:=C3.later E4;have S5:=S1.later E4;have O5:=O2.later E5;clear hu4 B3 C3 S1 O2 X3 X4 e4 E5 E4;refine wp_region_letters (fun lx:Nat→Value=>{ tmps:=#[grV r c (Value.slice pv NN nv),Value.int .i64 x,sV op,VT.val ⟨bk,bn,bd,bx,bt⟩,Value.pointer (some ⟨w.heap.size,0,none⟩),undef,undef,Value.pointer (some ⟨w.heap.size+1,0,none⟩),Value.bool false,Value.int .i64 y,Value.slice ps LL cs,Value.pointer (some ⟨w4.heap.size,0,none⟩),lx 12,undef,undef,undef,undef,sV op,Value.int .i64 (OL:Int),Value.bool false,Value.agg #[Value.int .i64 r,Value.int .i64 c,Value.slice pv NN nv],Value.int .i64 1048576,Value.int .i64 z,Value.int .i64 z,Value.bool false,Value.agg #[Value.int .i64 bk,Value.bool bn,Value.int .i64 bd,Value.int .i64 bx,sV bt],Value.int .i64 z,Value.int .i64 y,Value.int .i64 y,Value.bool false,grV r c (Value.slice pv NN nv),grV r c (Value.slice (some ⟨gg1,0,none⟩) NN NN),Value.int .i64 x,sV op,valV bk bn bd bx bt,valV bk bn bd bx bt,Value.slice ps LL cs,Value.agg #[Value.int .i64 r,Value.int .i64 c,Value.slice pv NN nv],grV r c (Value.slice (some ⟨g2,0,none⟩) NN NN),lx 39,lx 40,lx 41,lx 42,lx 43,lx 44,undef,undef,undef,undef,undef,undef,undef,undef,undef,undef,undef,undef,undef,undef,undef,undef,undef,undef,undef,undef,undef,undef,undef,undef,undef,undef,undef,undef,undef,undef,undef,undef,undef,undef,undef,undef,undef,undef,undef,undef,undef,undef,undef,undef,undef,undef,undef,undef,undef,undef],defers:=[] }) (fun L lx lw=>Hid (Ext u4 lw∧Vec lw (w.heap.size) [.int .i64 r,.int .i64 c,.slice pv NN nv]∧Vec lw (w.heap.size+1) [.int .i64 bk,.bool bn,.int .i64 bd,.int .i64 bx,sV bt]∧Vec lw (w4.heap.size) [.int .i64 r,.int .i64 c,.slice (some ⟨g2,0,none⟩) NN NN]∧OwnV lw g2 l∧NumsAt lw (.slice ps LL cs) RR∧(L 0=true→lx 39=grV r c (.slice (some ⟨g2,0,none⟩) NN NN))∧(L 1=true→lx 40=.int .i64 x)∧(L 2=true→lx 41=sV op)∧(L 3=true→lx 42=valV bk bn bd bx bt)∧(L 4=true→lx 43=valV bk bn bd bx bt)∧(L 5=true→∃ pp cc,lx 44=.slice pp LL cc∧(L 6=true→lx 12=.slice pp LL cc)∧NumsAt lw (.slice pp LL cc) RR∧(0<LL→∀ g,(Value.slice pp LL cc).ownBlock=some g→u4.heap.size≤g))∧(L 6=true→L 5=true))) rfl (by kernel_rfl) (fun jj=>undef) rfl ?_ ?_ ?_
  ·exact ⟨xd (xr u4),B5.later (xd (xr _)),C5.later (xd (xr _)),D4.later (xd (xr _)),O5.later (xd (xr _)),S5.later (xd (xr _)),(fun h=>by cases h),(fun h=>by cases h),(fun h=>by cases h),(fun h=>by cases h),(fun h=>by cases h),(fun h=>by cases h),(fun h=>by cases h)⟩
  ·intro L lx wl i o K hK ho hL haf hI;obtain ⟨X,f0,f1,f2,f3,f4,f5,f6,f7,f8,f9,f10,f11⟩:=hI.out
   match i,ho,hL,haf,hK with
   | 0,ho,hL,haf,hK =>
    cases ho
    (try dsimp only)
    have a0:=(f2 0 _ rfl).1;have a1:=(f2 1 _ rfl).1;have a2:=(f2 2 _ rfl).1;go_wp2_with fail;exact hK (fun jj=>if jj=39 then grV r c (.slice (some ⟨g2,0,none⟩) NN NN) else lx jj) _ ⟨X,(f0),(f1),(f2),(f3),(f4),(fun _=>rfl),(f6),(f7),(f8),(f9),(f10),(f11)⟩
   | 1,ho,hL,haf,hK =>
    cases ho
    (try dsimp only)
    go_wp2_with fail;exact hK (fun jj=>if jj=40 then .int .i64 x else lx jj) _ ⟨X,(f0),(f1),(f2),(f3),(f4),(f5),(fun _=>rfl),(f7),(f8),(f9),(f10),(f11)⟩
   | 2,ho,hL,haf,hK =>
    cases ho
    (try dsimp only)
    go_wp2_with fail;exact hK (fun jj=>if jj=41 then sV op else lx jj) _ ⟨X,(f0),(f1),(f2),(f3),(f4),(f5),(f6),(fun _=>rfl),(f8),(f9),(f10),(f11)⟩
   | 3,ho,hL,haf,hK =>
    cases ho
    (try dsimp only)
    have a0:=(f1 0 _ rfl).1;have a1:=(f1 1 _ rfl).1;have a2:=(f1 2 _ rfl).1;have a3:=(f1 3 _ rfl).1;have a4:=(f1 4 _ rfl).1;go_wp2_with fail;exact hK (fun jj=>if jj=42 then valV bk bn bd bx bt else lx jj) _ ⟨X,(f0),(f1),(f2),(f3),(f4),(f5),(f6),(f7),(fun _=>rfl),(f9),(f10),(f11)⟩
   | 4,ho,hL,haf,hK =>
    cases ho
    (try dsimp only)
    rw [f8 (haf ⟨3,.data⟩ (by simp) rfl)];go_wp2_with fail;refine (TV.out wl).mono ?_;rintro rr w' ⟨rfl,E⟩;go_wp2_with fail;exact hK (fun jj=>if jj=43 then valV bk bn bd bx bt else if jj=42 then valV bk bn bd bx bt else lx jj) _ ⟨xt X E,(f0.later E),(f1.later E),(f2.later E),(f3.later E),(f4.later E),(f5),(f6),(f7),(fun _=>rfl),(fun _=>rfl),(fun a=>by obtain ⟨pp,cc,h1,h2,h3,h4⟩:=f10 a;exact ⟨pp,cc,h1,h2,h3.later E,h4⟩),(f11)⟩
   | 5,ho,hL,haf,hK =>
    cases ho
    (try dsimp only)
    rw [f5 (haf ⟨0,.data⟩ (by simp) rfl),f6 (haf ⟨1,.data⟩ (by simp) rfl),f7 (haf ⟨2,.data⟩ (by simp) rfl),f9 (haf ⟨4,.data⟩ (by simp) rfl)];have hst:L 6=true→False:=fun h=>(by have:=f11 h;rw [hL] at this;cases this);go_wp2_with fail;refine (CI.out wl g2 (xt X5 X) f3).mono ?_;rintro rr w' ⟨ans,rfl,N1,N2,E⟩;obtain ⟨pp,cc,rfl⟩:∃ p n,ans=.slice p RR.length n:=(by obtain ⟨p,n,h,_⟩:=N1;exact ⟨p,n,h⟩);rw [HLL.out] at N1 N2 ⊢;go_wp2_with fail;exact hK (fun jj=>if jj=44 then .slice pp LL cc else if jj=39 then grV r c (.slice (some ⟨g2,0,none⟩) NN NN) else if jj=40 then .int .i64 x else if jj=41 then sV op else if jj=43 then valV bk bn bd bx bt else lx jj) _ ⟨xt X E,(f0.later E),(f1.later E),(f2.later E),(f3.later E),(f4.later E),(fun _=>rfl),(fun _=>rfl),(fun _=>rfl),(f8),(fun _=>rfl),(fun _=>⟨pp,cc,rfl,(fun h=>(hst h).elim),N1,fun h0 g hg=>Nat.le_trans X.size (N2 (by first | exact h0 | (rw [HLL.out];exact h0)) g hg)⟩),(fun _=>rfl)⟩
   | 6,ho,hL,haf,hK =>
    cases ho
    (try dsimp only)
    obtain ⟨pp,cc,h1,_,h3,h4⟩:=f10 (haf ⟨5,.data⟩ (by simp) rfl);rw [h1];go_wp2_with fail;exact hK (fun jj=>if jj=12 then .slice pp LL cc else if jj=44 then .slice pp LL cc else lx jj) _ ⟨X,(f0),(f1),(f2),(f3),(f4),(f5),(f6),(f7),(f8),(f9),(fun _=>⟨pp,cc,rfl,(fun _=>rfl),h3,h4⟩),(fun _=>haf ⟨5,.data⟩ (by simp) rfl)⟩
   | k+7,ho,_,_,_=>simp at ho
  ·intro L lx w5 hall hI;obtain ⟨XR,f0,f1,f2,f3,f4,f5,f6,f7,f8,f9,f10,f11⟩:=hI.out;clear hI;obtain ⟨pp,cc,qf,qa,N1,N2⟩:=f10 (hall 5 (by simp))
   (try dsimp only)
   rw [f5 (hall 0 (by simp)),f6 (hall 1 (by simp)),f7 (hall 2 (by simp)),f8 (hall 3 (by simp)),f9 (hall 4 (by simp)),qf,qa (hall 6 (by simp))];clear hall f5 f6 f7 f8 f9 f10 f11 qf qa;have X6:=xt X5 XR;have B6:=f0;have C6:=f1;have D6:=f2;have O6:=f3;have S6:=f4;have T6:=N1;have hf2:0<LL→∀ g,(Value.slice pp LL cc).ownBlock=some g→u4.heap.size≤g:=N2;clear f0 f1 f2 f3 f4;clear B5 C5 D4 O5 S5 X5 N1 N2 XR;obtain ⟨p2,hp2⟩:∃ p2,p2=pp:=⟨_,rfl⟩;obtain ⟨c2,hc2⟩:∃ c2,c2=cc:=⟨_,rfl⟩;subst hp2;subst hc2;have EN:Hid (∀ W u v,NumsAt W u RR→NumsAt W v RR→Calls Tryz.prog 11 #[u,v] W fun e w'=>e=.returned (.bool true)∧Ext W w'):=fun W u v hu hv=>eqNums u v RR W hu hv (by rw [HLL.out];omega);go_wp2_with fail;refine (EN.out w5 _ _ T6 S6).mono ?_;rintro e w6 ⟨rfl,e6⟩;have X7:=xt X6 e6;have B7:=B6.later e6;have C7:=C6.later e6;have D7:=D6.later e6;have O7:=O6.later e6;have S7:=S6.later e6;have T7:=T6.later e6;clear X6 B6 C6 D6 O6 S6 T6 e6;go_wp2_with fail;refine wp_region_letters (fun lx:Nat→Value=>{ tmps:=#[grV r c (Value.slice pv NN nv),Value.int .i64 x,sV op,VT.val ⟨bk,bn,bd,bx,bt⟩,Value.pointer (some ⟨w.heap.size,0,none⟩),undef,undef,Value.pointer (some ⟨w.heap.size+1,0,none⟩),Value.bool false,Value.int .i64 y,Value.slice ps LL cs,Value.pointer (some ⟨w4.heap.size,0,none⟩),Value.slice p2 LL c2,undef,undef,undef,undef,sV op,Value.int .i64 (OL:Int),Value.bool false,Value.agg #[Value.int .i64 r,Value.int .i64 c,Value.slice pv NN nv],Value.int .i64 1048576,Value.int .i64 z,Value.int .i64 z,Value.bool false,Value.agg #[Value.int .i64 bk,Value.bool bn,Value.int .i64 bd,Value.int .i64 bx,sV bt],Value.int .i64 z,Value.int .i64 y,Value.int .i64 y,Value.bool false,grV r c (Value.slice pv NN nv),grV r c (Value.slice (some ⟨gg1,0,none⟩) NN NN),Value.int .i64 x,sV op,valV bk bn bd bx bt,valV bk bn bd bx bt,Value.slice ps LL cs,Value.agg #[Value.int .i64 r,Value.int .i64 c,Value.slice pv NN nv],grV r c (Value.slice (some ⟨g2,0,none⟩) NN NN),grV r c (Value.slice (some ⟨g2,0,none⟩) NN NN),Value.int .i64 x,sV op,valV bk bn bd bx bt,valV bk bn bd bx bt,Value.slice p2 LL c2,Value.slice p2 LL c2,Value.slice ps LL cs,Value.bool true,Value.bool false,lx 49,lx 50,lx 51,lx 52,lx 53,undef,undef,undef,undef,undef,undef,undef,undef,undef,undef,undef,undef,undef,undef,undef,undef,undef,undef,undef,undef,undef,undef,undef,undef,undef,undef,undef,undef,undef,undef,undef,undef,undef,undef,undef,undef,undef,undef,undef,undef,undef],defers:=[] }) (fun L lx lw=>Hid (Ext w6 lw∧Vec lw (w.heap.size) [.int .i64 r,.int .i64 c,.slice pv NN nv]∧Vec lw (w4.heap.size) [.int .i64 r,.int .i64 c,.slice (some ⟨g2,0,none⟩) NN NN]∧OwnV lw g2 l∧NumsAt lw (.slice ps LL cs) RR∧NumsAt lw (.slice p2 LL c2) RR∧Vec lw (w.heap.size+1) [.int .i64 bk,.bool bn,.int .i64 bd,.int .i64 bx,sV bt]∧(L 0=true→lx 49=grV r c (.slice (some ⟨g2,0,none⟩) NN NN))∧(L 1=true→lx 50=grV r c (.slice pv NN nv))∧(L 2=true→∃ gg,lx 51=grV r c (.slice (some ⟨gg,0,none⟩) NN NN)∧OwnV lw gg l)∧(L 3=true→lx 52=.bool true)∧(L 4=true→lx 53=.bool false))) rfl (by kernel_rfl) (fun _=>undef) rfl ?_ ?_ ?_
   ·exact ⟨xd (xr w6),B7.later (xd (xr _)),D7.later (xd (xr _)),O7.later (xd (xr _)),S7.later (xd (xr _)),T7.later (xd (xr _)),C7.later (xd (xr _)),(fun h=>by cases h),(fun h=>by cases h),(fun h=>by cases h),(fun h=>by cases h),(fun h=>by cases h)⟩
   ·intro L lx wl i o K hK ho hL haf hI;obtain ⟨X,f0,f1,f2,f3,f4,f5,f6,f7,f8,f9,f10⟩:=hI.out
    match i,ho,hL,haf,hK with
    | 0,ho,hL,haf,hK =>
     cases ho
     (try dsimp only)
     have a0:=(f1 0 _ rfl).1;have a1:=(f1 1 _ rfl).1;have a2:=(f1 2 _ rfl).1;go_wp2_with fail;exact hK (fun jj=>if jj=49 then grV r c (.slice (some ⟨g2,0,none⟩) NN NN) else lx jj) _ ⟨X,f0,f1,f2,f3,f4,f5,(fun _=>rfl),f7,f8,f9,f10⟩
    | 1,ho,hL,haf,hK =>
     cases ho
     (try dsimp only)
     have a0:=(f0 0 _ rfl).1;have a1:=(f0 1 _ rfl).1;have a2:=(f0 2 _ rfl).1;go_wp2_with fail;exact hK (fun jj=>if jj=50 then grV r c (.slice pv NN nv) else lx jj) _ ⟨X,f0,f1,f2,f3,f4,f5,f6,(fun _=>rfl),f8,f9,f10⟩
    | 2,ho,hL,haf,hK =>
     cases ho
     (try dsimp only)
     rw [f7 (haf ⟨1,.data⟩ (by simp) rfl)];go_wp2_with fail;refine (TG.out wl (xt X7 X)).mono ?_;rintro rr w' ⟨⟨gg,rfl,hgg,OO⟩,E⟩;go_wp2_with fail;exact hK (fun jj=>if jj=51 then grV r c (.slice (some ⟨gg,0,none⟩) NN NN) else if jj=50 then grV r c (.slice pv NN nv) else lx jj) _ ⟨xt X E,(f0.later E),(f1.later E),(f2.later E),(f3.later E),(f4.later E),(f5.later E),(f6),(fun _=>rfl),(fun _=>⟨gg,rfl,OO⟩),(f9),(f10)⟩
    | 3,ho,hL,haf,hK =>
     cases ho
     (try dsimp only)
     obtain ⟨gg,q1,OO⟩:=f8 (haf ⟨2,.data⟩ (by simp) rfl);rw [f6 (haf ⟨0,.data⟩ (by simp) rfl),q1];go_wp2_with fail;refine (EG.out wl g2 gg f2 OO).mono ?_;rintro rr w' ⟨rfl,E⟩;go_wp2_with fail;exact hK (fun jj=>if jj=52 then .bool true else if jj=49 then grV r c (.slice (some ⟨g2,0,none⟩) NN NN) else if jj=51 then grV r c (.slice (some ⟨gg,0,none⟩) NN NN) else lx jj) _ ⟨xt X E,(f0.later E),(f1.later E),(f2.later E),(f3.later E),(f4.later E),(f5.later E),(fun _=>rfl),(f7),(fun _=>⟨gg,rfl,OO.later E⟩),(fun _=>rfl),(f10)⟩
    | 4,ho,hL,haf,hK =>
     cases ho
     (try dsimp only)
     rw [f9 (haf ⟨3,.data⟩ (by simp) rfl)];go_wp2_with fail;exact hK (fun jj=>if jj=53 then .bool false else if jj=52 then .bool true else lx jj) _ ⟨X,f0,f1,f2,f3,f4,f5,f6,f7,f8,(fun _=>rfl),(fun _=>rfl)⟩
    | k+5,ho,_,_,_=>simp at ho
   ·intro L lx w7 hall hI;obtain ⟨XR,f0,f1,f2,f3,f4,f5,f6,f7,f8,f9,f10⟩:=hI.out;clear hI;obtain ⟨gg,q5,_⟩:=f8 (hall 2 (by simp))
    (try dsimp only)
    rw [f6 (hall 0 (by simp)),f7 (hall 1 (by simp)),q5,f9 (hall 3 (by simp)),f10 (hall 4 (by simp))];clear hall f6 f7 f8 f9 f10 q5;have X8:=xt X7 XR;have B8:=f0;have D8:=f1;have O8:=f2;have S8:=f3;have T8:=f4;have C8:=f5;clear f0 f1 f2 f3 f4 f5;clear B7 C7 D7 O7 S7 T7 X7 XR;have RA:RowAt w7 (.slice (some ⟨g2,0,none⟩) NN NN) NN (flatV l):=RowAt.of_own O8 HNN.out;obtain ⟨d0,d1,d2⟩:=Vec.three D8;go_wp2_with fail;clear d0 d1 d2;refine (markGridL r c _ NN (flatV l) 1 w7 RA hl2 (by omega) (by omega)).mono ?_;rintro e w8 ⟨rfl,_,G8⟩;have nr:∀ k,(if NN=0 then none else (Value.slice (some ⟨g2,0,none⟩) NN NN).ownBlock)=some k→0<NN∧k=g2:=fun k hk=>by
     by_cases h0:NN=0
     ·rw [if_pos h0] at hk;cases hk
     ·rw [if_neg h0] at hk;exact ⟨by omega,(by simpa [Value.ownBlock] using hk.symm)⟩
    have X9:Ext w w8:=X8.grown G8 X8.size (fun k hk=>by obtain ⟨_,rfl⟩:=nr k hk;omega);have B9:Vec w8 w.heap.size [.int .i64 r,.int .i64 c,.slice pv NN nv]:=vec_keep B8 G8 (fun e=>by have:=(nr _ e.symm).2;omega);have C9:Vec w8 (w.heap.size+1) [.int .i64 bk,.bool bn,.int .i64 bd,.int .i64 bx,sV bt]:=vec_keep C8 G8 (fun e=>by have:=(nr _ e.symm).2;omega);have S9:NumsAt w8 (.slice ps LL cs) RR:=S8.keep G8 (fun k h0 hk e=>by have h1:=(nr _ e.symm).2;have h2:=hsb (by rw [← HLL.out];exact h0) k hk;omega);have T9:NumsAt w8 (.slice p2 LL c2) RR:=T8.keep G8 (fun k h0 hk e=>by have h1:=(nr _ e.symm).2;have h3:=(nr _ e.symm).1;have h2:=hf2 (by rw [← HLL.out];exact h0) k hk;omega);obtain ⟨KK,hKK⟩:∃ KK:Nat,1+NN * 5=KK:=⟨_,rfl⟩;have k0:decide ((KK:Int)<0)=false:=decide_eq_false (by omega);rw [hKK];clear G8 S8 T8 B8 C8 D8 O8 RA X8 hKK;go_wp2_with fail;refine (EN.out w8 _ _ T9 S9).mono ?_;rintro e w9 ⟨rfl,e9⟩;have X10:=xt X9 e9;have B10:=B9.later e9;have C10:=C9.later e9;have S10:=S9.later e9;have T10:=T9.later e9;clear B9 C9 S9 T9 X9 e9;go_wp2_with fail;refine (markNums _ RR LL 1 w9 T10 HLL.out (by omega) (by omega) (by omega)).mono ?_;rintro e w10 ⟨rfl,M11,G10⟩;have nr2:∀ k,(if LL=0 then none else (Value.slice p2 LL c2).ownBlock)=some k→0<LL∧(Value.slice p2 LL c2).ownBlock=some k:=fun k hk=>row_own hk;have X11:Ext w w10:=X10.grown G10 X10.size (fun k hk=>by obtain ⟨h0,h1⟩:=nr2 k hk;have:=hf2 h0 k h1;omega);have B11:Vec w10 w.heap.size [.int .i64 r,.int .i64 c,.slice pv NN nv]:=vec_keep B10 G10 (fun e=>by obtain ⟨h0,h1⟩:=nr2 _ e.symm;have:=hf2 h0 _ h1;omega);have C11:Vec w10 (w.heap.size+1) [.int .i64 bk,.bool bn,.int .i64 bd,.int .i64 bx,sV bt]:=vec_keep C10 G10 (fun e=>by obtain ⟨h0,h1⟩:=nr2 _ e.symm;have:=hf2 h0 _ h1;omega);have S11:NumsAt w10 (.slice ps LL cs) RR:=S10.keep G10 (fun k h0 hk e=>by obtain ⟨h3,h1⟩:=nr2 _ e.symm;have h4:=hf2 h3 k h1;have h2:=hsb (by rw [← HLL.out];exact h0) k hk;omega);have q1:decide (((1+LL:Nat):Int)<0)=false:=decide_eq_false (by omega);have HM:Hid (∀ W,NumsAt W (.slice p2 LL c2) (marksN 1 LL)→Calls Tryz.prog 15 #[.slice p2 LL c2,.int .i64 1] W fun e w'=>e=.returned (.int .i64 ((1+LL:Nat):Int))∧Ext W w'):=fun W hW=>heldNums _ LL 1 W hW (by omega) (by omega) (by omega);obtain ⟨ML,hML⟩:∃ ML:Nat,1+LL=ML:=⟨_,rfl⟩;rw [hML] at q1 HM ⊢;clear G10 S10 T10 B10 C10 X10 hML;go_wp2_with fail;refine (HM.out w10 M11).mono ?_;rintro e w11 ⟨rfl,e11⟩;have X12:=xt X11 e11;have B12:=B11.later e11;have C12:=C11.later e11;have S12:=S11.later e11;have M12:=M11.later e11;clear B11 C11 S11 M11 X11 e11;go_wp2_with fail;refine wp_region_letters (fun lx:Nat→Value=>{ tmps:=#[grV r c (Value.slice pv NN nv),Value.int .i64 x,sV op,VT.val ⟨bk,bn,bd,bx,bt⟩,Value.pointer (some ⟨w.heap.size,0,none⟩),undef,undef,Value.pointer (some ⟨w.heap.size+1,0,none⟩),Value.bool false,Value.int .i64 y,Value.slice ps LL cs,Value.pointer (some ⟨w4.heap.size,0,none⟩),Value.slice p2 LL c2,Value.int .i64 (KK:Int),Value.int .i64 (ML:Int),Value.int .i64 (ML:Int),lx 16,sV op,Value.int .i64 (OL:Int),Value.bool false,Value.agg #[Value.int .i64 r,Value.int .i64 c,Value.slice pv NN nv],Value.int .i64 1048576,Value.int .i64 z,Value.int .i64 z,Value.bool false,Value.agg #[Value.int .i64 bk,Value.bool bn,Value.int .i64 bd,Value.int .i64 bx,sV bt],Value.int .i64 z,Value.int .i64 y,Value.int .i64 y,Value.bool false,grV r c (Value.slice pv NN nv),grV r c (Value.slice (some ⟨gg1,0,none⟩) NN NN),Value.int .i64 x,sV op,valV bk bn bd bx bt,valV bk bn bd bx bt,Value.slice ps LL cs,Value.agg #[Value.int .i64 r,Value.int .i64 c,Value.slice pv NN nv],grV r c (Value.slice (some ⟨g2,0,none⟩) NN NN),grV r c (Value.slice (some ⟨g2,0,none⟩) NN NN),Value.int .i64 x,sV op,valV bk bn bd bx bt,valV bk bn bd bx bt,Value.slice p2 LL c2,Value.slice p2 LL c2,Value.slice ps LL cs,Value.bool true,Value.bool false,grV r c (Value.slice (some ⟨g2,0,none⟩) NN NN),grV r c (Value.slice pv NN nv),grV r c (Value.slice (some ⟨gg,0,none⟩) NN NN),Value.bool true,Value.bool false,Value.agg #[Value.int .i64 r,Value.int .i64 c,Value.slice (some ⟨g2,0,none⟩) NN NN],Value.int .i64 1,Value.int .i64 (KK:Int),Value.int .i64 (KK:Int),Value.bool false,Value.bool false,Value.slice p2 LL c2,Value.slice ps LL cs,Value.bool true,Value.bool false,Value.bool false,Value.slice p2 LL c2,Value.int .i64 1,Value.int .i64 (ML:Int),Value.slice p2 LL c2,Value.int .i64 1,Value.int .i64 (ML:Int),Value.int .i64 (ML:Int),Value.bool false,Value.int .i64 (ML:Int),Value.int .i64 (ML:Int),Value.bool false,lx 76,lx 77,lx 78,lx 79,lx 80,lx 81,lx 82,undef,undef,undef,undef,undef,undef,undef,undef,undef,undef,undef,undef],defers:=[] }) (fun L lx lw=>Hid (Ext w11 lw∧Vec lw (w.heap.size) [.int .i64 r,.int .i64 c,.slice pv NN nv]∧Vec lw (w.heap.size+1) [.int .i64 bk,.bool bn,.int .i64 bd,.int .i64 bx,sV bt]∧NumsAt lw (.slice ps LL cs) RR∧NumsAt lw (.slice p2 LL c2) (marksN 1 LL)∧(L 0=true→lx 76=grV r c (.slice pv NN nv))∧(L 1=true→∃ gg,lx 77=grV r c (.slice (some ⟨gg,0,none⟩) NN NN)∧OwnV lw gg l)∧(L 2=true→lx 78=.int .i64 x)∧(L 3=true→lx 79=sV op)∧(L 4=true→lx 80=valV bk bn bd bx bt)∧(L 5=true→lx 81=valV bk bn bd bx bt)∧(L 6=true→∃ pp cc,lx 82=.slice pp LL cc∧(L 7=true→lx 16=.slice pp LL cc)∧NumsAt lw (.slice pp LL cc) RR∧(0<LL→∀ g,(Value.slice pp LL cc).ownBlock=some g→w11.heap.size≤g))∧(L 7=true→L 6=true))) rfl (by kernel_rfl) (fun jj=>undef) rfl ?_ ?_ ?_
    ·exact ⟨xd (xr w11),B12.later (xd (xr _)),C12.later (xd (xr _)),S12.later (xd (xr _)),M12.later (xd (xr _)),(fun h=>by cases h),(fun h=>by cases h),(fun h=>by cases h),(fun h=>by cases h),(fun h=>by cases h),(fun h=>by cases h),(fun h=>by cases h),(fun h=>by cases h)⟩
    ·intro L lx wl i o K hK ho hL haf hI;obtain ⟨X,f0,f1,f2,f3,f4,f5,f6,f7,f8,f9,f10,f11⟩:=hI.out
     match i,ho,hL,haf,hK with
     | 0,ho,hL,haf,hK =>
      cases ho
      (try dsimp only)
      have a0:=(f0 0 _ rfl).1;have a1:=(f0 1 _ rfl).1;have a2:=(f0 2 _ rfl).1;go_wp2_with fail;exact hK (fun jj=>if jj=76 then grV r c (.slice pv NN nv) else lx jj) _ ⟨X,(f0),(f1),(f2),(f3),(fun _=>rfl),(f5),(f6),(f7),(f8),(f9),(f10),(f11)⟩
     | 1,ho,hL,haf,hK =>
      cases ho
      (try dsimp only)
      rw [f4 (haf ⟨0,.data⟩ (by simp) rfl)];go_wp2_with fail;refine (TG.out wl (xt X12 X)).mono ?_;rintro rr w' ⟨⟨gg,rfl,hgg,OO⟩,E⟩;go_wp2_with fail;exact hK (fun jj=>if jj=77 then grV r c (.slice (some ⟨gg,0,none⟩) NN NN) else if jj=76 then grV r c (.slice pv NN nv) else lx jj) _ ⟨xt X E,(f0.later E),(f1.later E),(f2.later E),(f3.later E),(fun _=>rfl),(fun _=>⟨gg,rfl,OO⟩),(f6),(f7),(f8),(f9),(fun a=>by obtain ⟨pp,cc,h1,h2,h3,h4⟩:=f10 a;exact ⟨pp,cc,h1,h2,h3.later E,h4⟩),(f11)⟩
     | 2,ho,hL,haf,hK =>
      cases ho
      (try dsimp only)
      go_wp2_with fail;exact hK (fun jj=>if jj=78 then .int .i64 x else lx jj) _ ⟨X,(f0),(f1),(f2),(f3),(f4),(f5),(fun _=>rfl),(f7),(f8),(f9),(f10),(f11)⟩
     | 3,ho,hL,haf,hK =>
      cases ho
      (try dsimp only)
      go_wp2_with fail;exact hK (fun jj=>if jj=79 then sV op else lx jj) _ ⟨X,(f0),(f1),(f2),(f3),(f4),(f5),(f6),(fun _=>rfl),(f8),(f9),(f10),(f11)⟩
     | 4,ho,hL,haf,hK =>
      cases ho
      (try dsimp only)
      have a0:=(f1 0 _ rfl).1;have a1:=(f1 1 _ rfl).1;have a2:=(f1 2 _ rfl).1;have a3:=(f1 3 _ rfl).1;have a4:=(f1 4 _ rfl).1;go_wp2_with fail;exact hK (fun jj=>if jj=80 then valV bk bn bd bx bt else lx jj) _ ⟨X,(f0),(f1),(f2),(f3),(f4),(f5),(f6),(f7),(fun _=>rfl),(f9),(f10),(f11)⟩
     | 5,ho,hL,haf,hK =>
      cases ho
      (try dsimp only)
      rw [f8 (haf ⟨4,.data⟩ (by simp) rfl)];go_wp2_with fail;refine (TV.out wl).mono ?_;rintro rr w' ⟨rfl,E⟩;go_wp2_with fail;exact hK (fun jj=>if jj=81 then valV bk bn bd bx bt else if jj=80 then valV bk bn bd bx bt else lx jj) _ ⟨xt X E,(f0.later E),(f1.later E),(f2.later E),(f3.later E),(f4),(fun a=>by obtain ⟨gg,h1,h2⟩:=f5 a;exact ⟨gg,h1,h2.later E⟩),(f6),(f7),(fun _=>rfl),(fun _=>rfl),(fun a=>by obtain ⟨pp,cc,h1,h2,h3,h4⟩:=f10 a;exact ⟨pp,cc,h1,h2,h3.later E,h4⟩),(f11)⟩
     | 6,ho,hL,haf,hK =>
      cases ho
      (try dsimp only)
      obtain ⟨gg,q1,OO⟩:=f5 (haf ⟨1,.data⟩ (by simp) rfl);rw [q1,f6 (haf ⟨2,.data⟩ (by simp) rfl),f7 (haf ⟨3,.data⟩ (by simp) rfl),f9 (haf ⟨5,.data⟩ (by simp) rfl)];have hst:L 7=true→False:=fun h=>(by have:=f11 h;rw [hL] at this;cases this);go_wp2_with fail;refine (CI.out wl gg (xt X12 X) OO).mono ?_;rintro rr w' ⟨ans,rfl,N1,N2,E⟩;obtain ⟨pp,cc,rfl⟩:∃ p n,ans=.slice p RR.length n:=(by obtain ⟨p,n,h,_⟩:=N1;exact ⟨p,n,h⟩);rw [HLL.out] at N1 N2 ⊢;go_wp2_with fail;exact hK (fun jj=>if jj=82 then .slice pp LL cc else if jj=77 then grV r c (.slice (some ⟨gg,0,none⟩) NN NN) else if jj=78 then .int .i64 x else if jj=79 then sV op else if jj=81 then valV bk bn bd bx bt else lx jj) _ ⟨xt X E,(f0.later E),(f1.later E),(f2.later E),(f3.later E),(f4),(fun _=>⟨gg,rfl,OO.later E⟩),(fun _=>rfl),(fun _=>rfl),(f8),(fun _=>rfl),(fun _=>⟨pp,cc,rfl,(fun h=>(hst h).elim),N1,fun h0 g hg=>Nat.le_trans X.size (N2 (by first | exact h0 | (rw [HLL.out];exact h0)) g hg)⟩),(fun _=>rfl)⟩
     | 7,ho,hL,haf,hK =>
      cases ho
      (try dsimp only)
      obtain ⟨pp,cc,h1,_,h3,h4⟩:=f10 (haf ⟨6,.data⟩ (by simp) rfl);rw [h1];go_wp2_with fail;exact hK (fun jj=>if jj=16 then .slice pp LL cc else if jj=82 then .slice pp LL cc else lx jj) _ ⟨X,(f0),(f1),(f2),(f3),(f4),(f5),(f6),(f7),(f8),(f9),(fun _=>⟨pp,cc,rfl,(fun _=>rfl),h3,h4⟩),(fun _=>haf ⟨6,.data⟩ (by simp) rfl)⟩
     | k+8,ho,_,_,_=>simp at ho
    ·intro L lx w12 hall hI;obtain ⟨XR,f0,f1,f2,f3,f4,f5,f6,f7,f8,f9,f10,f11⟩:=hI.out;clear hI;obtain ⟨gg1,qq1,_⟩:=f5 (hall 1 (by simp));obtain ⟨pp,cc,qf,qa,N1,N2⟩:=f10 (hall 6 (by simp))
     (try dsimp only)
     rw [f4 (hall 0 (by simp)),qq1,f6 (hall 2 (by simp)),f7 (hall 3 (by simp)),f8 (hall 4 (by simp)),f9 (hall 5 (by simp)),qf,qa (hall 7 (by simp))];clear hall f4 f5 f6 f7 f8 f9 f10 f11 qf qa qq1;have X13:=xt X12 XR;have S13:=f2;have M13:=f3;have N13:=N1;clear f0 f1 f2 f3;clear B12 C12 S12 M12 X12 N1 N2 XR;go_wp2_with fail;refine (EN.out w12 _ _ N13 S13).mono ?_;rintro e w14 ⟨rfl,e14⟩;have X14:=xt X13 e14;have M14:=M13.later e14;clear S13 M13 X13 e14 N13;go_wp2_with fail;refine (HM.out w14 M14).mono ?_;rintro e w15 ⟨rfl,e15⟩;have X15:=xt X14 e15;clear M14 X14 e15;go_wp2_with fail;go_ret;exact ⟨rfl,X15⟩
structure AsksV (w:World) (f:Nat) (rc lb:Array Value) (L:List VT) (p:VT→Bool):Prop where
 ent:∀ args w,(callFunc f args).run Tryz.prog w=.ok (.enter f args) w
 says:∀ W e,Ext w W→e ∈ L→Calls Tryz.prog f (rc++#[e.val]++lb) W fun z w'=>z=.returned (.bool (p e))∧Ext W w'
end Go.Proofs.YtiaakhogigddbaaGreatDoor

