/-
  Several texts in one: J7, J8, Qf, Qg.
-/
import Derived.Test.YtnphbpmdohidcaaDoorMg19
import Derived.Test.YtnphbpmdohidcaaDoorMg15
import Derived.Test.YtnphbpmdohidcaaDoorMg18
import Derived.Shelf.Abstract
import Derived.BigQuiet
import Derived.Deep.QuietTactic
namespace Go.Proofs.YtnphbpmdohidcaaDoor
open Go.RowKit
def gridN (c:Nat→Nat→VT) (C n:Nat):List VT:=(List.range n).map fun i=>c (i / C) (i % C)
theorem gridN_length (c:Nat→Nat→VT) (C n:Nat):(gridN c C n).length=n:=by simp [gridN]
theorem gridN_succ (c:Nat→Nat→VT) (C n:Nat):gridN c C (n+1)=gridN c C n++[c (n / C) (n % C)]:=by simp [gridN,List.range_succ]
theorem infoVT:∃ inf,Tryd.prog.info? 46=some inf∧inf.zero=some (.agg #[.int .i64 0,.bool false,.int .i64 0,.int .i64 0,sV []])∧inf.size=5∧inf.bytes=48:=by
 have h:=infoV;cases h':Tryd.prog.info? 46 with
 | none=>rw [h'] at h;cases h
 | some inf =>
  rw [h'] at h;simp at h;exact ⟨inf,rfl,h.1,h.2.1,h.2.2⟩
theorem app_val (w:World) (base:Nat) (v:Value) (l:List VT) (O:OwnW w base v l) (e:VT) (b:Nat) (V:Vec w b e.cells) (hl:l.length≤100000000) (hb:base≤w.heap.size) :
  ∃ v' w',(Builtin.append_ #[23,23] 23 #[v,.slice (some ⟨b,0,none⟩) 1 1]).run Tryd.prog w=.ok v' w'∧OwnW w' base v' (l++[e])∧w.grownBy w' v.ownBlock∧(v'.ownBlock=v.ownBlock∨v'.ownBlock=some w.heap.size):=by
 obtain ⟨inf,hi,hz,hsz,hby⟩:=infoVT;obtain ⟨v',w',hrun,O',GW,hb'⟩:=app_srcG (P:=Tryd.prog) w base 23 23 23 46 inf _ Tryd.underlying23 hi hz 5 hsz (by rw [hby];omega) rfl v l.length _ O (.slice (some ⟨b,0,none⟩) 1 1) 1 e.cells
  (Src.ofSlice (size:=5) w Tryd.underlying23 ⟨b,0,none⟩ 1 1 e.cells rfl (fun j u hj=>by rw [Addr.add_lit,Nat.zero_add];exact (V j u hj).1) (fun u hu=>by simp at hu;rcases hu with rfl | rfl | rfl | rfl | rfl <;> rfl)) (by omega) hb
 refine ⟨v',w',hrun,?_,GW,hb'⟩;show World.ownsRow _ _ _ _ _ _ _;rw [List.length_append,flatV_append];simpa [flatV] using O'
theorem makeCapV (n:Nat) (hn:n≤2000000) (w:World) :
  (Instr.makeSlice 23 (.int .i64 0) (.int .i64 (n:Int))).run Tryd.prog w=.ok (.slice (some ⟨w.heap.size,0,none⟩) 0 n) (w.alloc (.cells (madeCells #[.int .i64 0,.bool false,.int .i64 0,.int .i64 0,sV []] (n * 5)) 46)):=by
 obtain ⟨i,hi,hzz⟩:=Option.map_eq_some_iff.1 infoV;simp only [Prod.mk.injEq] at hzz;obtain ⟨hz,hs,hb⟩:=hzz;have hr:=run_make (P:=Tryd.prog) w 23 46 i _ Tryd.underlying23 hi hz .i64 .i64 0 n (by omega) (by omega) (by rw [hb];omega) (by omega);simp only [Int.toNat_natCast,hs] at hr;exact hr
theorem ownW_made (w:World) (n:Nat) (hn:n≤2000000):OwnW (w.alloc (.cells (madeCells #[.int .i64 0,.bool false,.int .i64 0,.int .i64 0,sV []] (n * 5)) 46)) w.heap.size (.slice (some ⟨w.heap.size,0,none⟩) 0 n) []:=by
 refine ⟨rfl,.inr ⟨w.heap.size,n,_,rfl,Nat.le_refl _,heap_alloc_new w _,Nat.zero_le _,by unfold maxLen;omega,?_,rfl⟩⟩;unfold madeCells;simp
theorem ownW_apart {w:World} {base:Nat} {v:Value} {l:List VT} (h:OwnW w base v l) {p:Addr} {u:Value} (hp:∀ g,v.ownBlock=some g→p.block ≠ g):OwnW (w.setCell p u) base v l:=by
 refine ⟨h.1,h.2.imp id ?_⟩;rintro ⟨g,cap,cur,h1,h2,h3,h4⟩;exact ⟨g,cap,cur,h1,h2,by rw [heap_setCell_other _ _ _ _ (by have:=hp g (by rw [h1];rfl);omega)];exact h3,h4⟩
structure AsksC (w:World) (f:Nat) (lb:Array Value) (R C:Nat) (c:Nat→Nat→VT):Prop where
 ent:∀ args w,(callFunc f args).run Tryd.prog w=.ok (.enter f args) w
 says:∀ W i j,Ext w W→i<R→j<C→Calls Tryd.prog f (#[.int .i64 (i:Int),.int .i64 (j:Int)]++lb) W fun z w'=>z=.returned (c i j).val∧Ext W w'
set_option maxRecDepth 8000 in
set_option maxHeartbeats 4000000 in
theorem filledI (f:Nat) (lb:Array Value) (R C:Nat) (c:Nat→Nat→VT) (w:World) (A:AsksC w f lb R C c) (hR:1≤R) (hC:1≤C) (hRC:R * C≤2000) :
  Calls Tryd.prog 14 #[.int .i64 R,.int .i64 C,.func (.func f) #[] lb] w fun e w'=>∃ sv,e=.returned (grV R C sv)∧OwnW w' w.heap.size sv (gridN c C (R * C))∧Ext w w':=by
 obtain ⟨N,hN⟩:∃ N,R * C=N:=⟨_,rfl⟩;have hN':(R:Int) * (C:Int)=(N:Int):=by rw [← hN];simp
 obtain ⟨q,hq⟩:∃ q:Int,(2000:Int).tdiv C=q:=⟨_,rfl⟩;have q1:(R:Int)≤q:=by
  rw [← hq,Int.tdiv_eq_ediv_of_nonneg (by omega)];exact (Int.le_ediv_iff_mul_le (by omega)).2 (by rw [hN'];omega)
 have q2:q≤2000:=by
  rw [← hq,Int.tdiv_eq_ediv_of_nonneg (by omega)];exact Int.ediv_le_self _ (by omega)
 have hq2:(2000:Int) / (C:Int)=q:=by rw [← hq,Int.tdiv_eq_ediv_of_nonneg (by omega)]
 have d1:decide ((R:Int) > q)=false:=decide_eq_false (by omega);have d2:decide (q<(R:Int))=false:=decide_eq_false (by omega);have c0:¬ ((C:Int)=0):=by omega
 have c0':((C:Int) == 0)=false:=by simpa using c0
 rw [hN];rw [hN] at hRC;have hRN:R≤N:=by rw [← hN];exact Nat.le_mul_of_pos_right _ (by omega)
 have hCN:C≤N:=by rw [← hN];exact Nat.le_mul_of_pos_left _ (by omega)
 have HA:Hid (AsksC w f lb R C c):=A;have HN:Hid (R * C=N):=hN;have ent:=A.ent;have X1:=x1 w (.cells #[.int .i64 0,.int .i64 0,.slice none 0 0] 25);have B1:=vec_made w [.int .i64 0,.int .i64 0,.slice none 0 0] 25;change Vec (w.alloc (.cells #[.int .i64 0,.int .i64 0,.slice none 0 0] 25)) _ _ at B1;obtain ⟨u1,hu1⟩:∃ u,w.alloc (.cells #[.int .i64 0,.int .i64 0,.slice none 0 0] 25)=u:=⟨_,rfl⟩;have s1:u1.heap.size=w.heap.size+1:=by rw [← hu1,World.size_alloc]
 rw [hu1] at X1 B1;have hmk:=makeCapV N (by omega) u1;have O2:=ownW_made u1 N (by omega);have X2:=x1 u1 (.cells (madeCells #[.int .i64 0,.bool false,.int .i64 0,.int .i64 0,sV []] (N * 5)) 46);obtain ⟨u2,hu2⟩:∃ u,u1.alloc (.cells (madeCells #[.int .i64 0,.bool false,.int .i64 0,.int .i64 0,sV []] (N * 5)) 46)=u:=⟨_,rfl⟩;have s2:u2.heap.size=w.heap.size+1+1:=by rw [← hu2,World.size_alloc,s1]
 rw [hu2] at hmk O2 X2;rw [s1] at hmk O2;have B3:=vec_made u2 [.int .i64 R,.int .i64 C,.slice (some ⟨w.heap.size+1,0,none⟩) 0 N] 25;have X3:=x1 u2 (.cells #[.int .i64 R,.int .i64 C,.slice (some ⟨w.heap.size+1,0,none⟩) 0 N] 25);change Vec (u2.alloc (.cells #[.int .i64 R,.int .i64 C,.slice (some ⟨w.heap.size+1,0,none⟩) 0 N] 25)) _ _ at B3;obtain ⟨u3,hu3⟩:∃ u,u2.alloc (.cells #[.int .i64 R,.int .i64 C,.slice (some ⟨w.heap.size+1,0,none⟩) 0 N] 25)=u:=⟨_,rfl⟩;rw [hu3] at B3 X3;rw [s2] at B3;have s3:u3.heap.size=w.heap.size+1+1+1:=by rw [← hu3,World.size_alloc,s2]
 clear hN A;go_enter Tryd.func14,Tryd.ntmps14;go_wp2_with fail;have HB1:Hid (Vec u3 w.heap.size [.int .i64 0,.int .i64 0,.slice none 0 0]):=B1.later (xt X2 X3);have HB3:Hid (Vec u3 (w.heap.size+1+1) [.int .i64 R,.int .i64 C,.slice (some ⟨w.heap.size+1,0,none⟩) 0 N]):=B3;have HO2:Hid (OwnW u3 (w.heap.size+1) (.slice (some ⟨w.heap.size+1,0,none⟩) 0 N) []):=ownW_later O2 X3;have HX3:Hid (Ext w u3):=xt X1 (xt X2 X3);clear hu1 hu2 hu3 s1 s2 hmk O2 X1 X2 X3 B1 B3 hq hq2 d1 d2 q1 q2;go_loopw [25] (fun i wr=>∃ (k cc:Nat) (p:Option Addr),k≤N∧i=.int .i64 k∧Hid (Ext w wr∧w.heap.size+1+1+1≤wr.heap.size∧Vec wr w.heap.size [.int .i64 0,.int .i64 0,.slice none 0 0]∧Vec wr (w.heap.size+1+1) [.int .i64 R,.int .i64 C,.slice p k cc]∧OwnW wr (w.heap.size+1) (.slice p k cc) (gridN c C k)∧(Value.slice p k cc).ownBlock ≠ some (w.heap.size+1+1))) (fun i _=>N - (intOf i).toNat)
 case atStart=>exact ⟨0,N,some ⟨w.heap.size+1,0,none⟩,by omega,rfl,HX3.out,by omega,HB1.out,HB3.out,HO2.out,by simp [Value.ownBlock]⟩
 case round =>
  obtain ⟨k,cc,p,hk,rfl,HI⟩:=hrel;by_cases hlt:k<N
  ·have i2:(k:Int)<(N:Int):=by omega
   have e1:(k:Int).tdiv (C:Int)=((k / C:Nat):Int):=rfl;have e2:(k:Int).tmod (C:Int)=((k % C:Nat):Int):=rfl;have e3:(k:Int) / (C:Int)=((k / C:Nat):Int):=rfl;have e4:(k:Int) % (C:Int)=((k % C:Nat):Int):=rfl;have hi1:k / C<R:=by rw [Nat.div_lt_iff_lt_mul (by omega),HN.out];exact hlt
   have hj1:k % C<C:=Nat.mod_lt _ (by omega);obtain ⟨a,ha⟩:∃ a,k / C=a:=⟨_,rfl⟩;obtain ⟨b,hb⟩:∃ b,k % C=b:=⟨_,rfl⟩;rw [ha] at e1 e3 hi1;rw [hb] at e2 e4 hj1;have HSUC:Hid (gridN c C (k+1)=gridN c C k++[c a b]):=by show _=_;rw [gridN_succ,ha,hb]
   clear ha hb;go_wp2_with fail;have HNE:Hid ((Value.slice p k cc).ownBlock ≠ some (w.heap.size+1+1)):=HI.out.2.2.2.2.2;refine wp_region_letters_g (fun lx:Nat→Value=>{ tmps:=#[Value.int .i64 (R:Int),Value.int .i64 (C:Int),Value.func (Fn.func f) #[] lb,undef,undef,undef,Value.pointer (some ⟨w.heap.size,0,none⟩),Value.pointer (some ⟨w.heap.size+1+1,0,none⟩),Value.int .i64 (k:Int),Value.int .i64 (R:Int),Value.int .i64 (C:Int),Value.int .i64 q,Value.bool false,undef,undef,Value.int .i64 (R:Int),Value.int .i64 (C:Int),Value.int .i64 (R:Int),Value.int .i64 (C:Int),Value.int .i64 (N:Int),Value.slice (some ⟨w.heap.size+1,0,none⟩) 0 N,Value.agg #[Value.int .i64 (R:Int),Value.int .i64 (C:Int),Value.slice (some ⟨w.heap.size+1,0,none⟩) 0 N],Value.int .i64 (R:Int),Value.int .i64 (C:Int),Value.int .i64 (N:Int),Value.int .i64 (k:Int),Value.bool true,Value.int .i64 (k:Int),lx 28,lx 29,lx 30,lx 31,lx 32,lx 33,lx 34,lx 35,lx 36,lx 37,lx 38,lx 39,lx 40,u41,undef],defers:=[] }) (fun L lx lw=>Hid (Ext w lw∧w.heap.size+1+1+1≤lw.heap.size∧Vec lw w.heap.size [.int .i64 0,.int .i64 0,.slice none 0 0]∧(L 13=false→Vec lw (w.heap.size+1+1) [.int .i64 R,.int .i64 C,.slice p k cc])∧(L 11=false→OwnW lw (w.heap.size+1) (.slice p k cc) (gridN c C k))∧(L 0=true→lx 28=.pointer (some ⟨w.heap.size+1+1,2,none⟩))∧(L 1=true→lx 29=.slice p k cc)∧(L 2=true→lx 30=.func (.func f) #[] lb)∧(L 3=true→lx 31=.int .i64 (k:Int))∧(L 4=true→lx 32=.int .i64 (C:Int))∧(L 5=true→lx 33=.int .i64 (a:Int))∧(L 6=true→lx 34=.int .i64 (k:Int))∧(L 7=true→lx 35=.int .i64 (C:Int))∧(L 8=true→lx 36=.int .i64 (b:Int))∧(L 9=true→lx 37=(c a b).val)∧(L 10=true→∃ bb,lx 38=.slice (some ⟨bb,0,none⟩) 1 1∧w.heap.size+1+1+1≤bb∧(L 11=false→Vec lw bb (c a b).cells))∧(L 11=true→∃ p' cc',lx 39=.slice p' (k+1) cc'∧OwnW lw (w.heap.size+1) (.slice p' (k+1) cc') (gridN c C (k+1))∧(Value.slice p' (k+1) cc').ownBlock ≠ some (w.heap.size+1+1)∧(L 13=true→Vec lw (w.heap.size+1+1) [.int .i64 R,.int .i64 C,.slice p' (k+1) cc']))∧(L 12=true→lx 40=.pointer (some ⟨w.heap.size+1+1,2,none⟩))∧(L 13=true→L 11=true)∧(L 13=true→L 1=true))) rfl (by kernel_rfl) (fun jj=>if jj=28 then u28 else if jj=29 then u29 else if jj=30 then u30 else if jj=31 then u31 else if jj=32 then u32 else if jj=33 then u33 else if jj=34 then u34 else if jj=35 then u35 else if jj=36 then u36 else if jj=37 then u37 else if jj=38 then u38 else if jj=39 then u39 else if jj=40 then u40 else undef) rfl ?_ ?_ ?_
   ·obtain ⟨h1,h2,h3,h4,h5,h6⟩:=HI.out;exact ⟨xd h1,h2,h3.later (xd (xr _)),(fun _=>h4.later (xd (xr _))),(fun _=>ownW_later h5 (xd (xr _))),(fun h=>by cases h),(fun h=>by cases h),(fun h=>by cases h),(fun h=>by cases h),(fun h=>by cases h),(fun h=>by cases h),(fun h=>by cases h),(fun h=>by cases h),(fun h=>by cases h),(fun h=>by cases h),(fun h=>by cases h),(fun h=>by cases h),(fun h=>by cases h),(fun h=>by cases h),(fun h=>by cases h)⟩
   ·intro L lx wl i o K hK ho hL haf hI;obtain ⟨X,SZ,V1,V3,RO,f0,f1,f2,f3,f4,f5,f6,f7,f8,f9,f10,f11,f12,g11,g1⟩:=hI.out
    match i,ho,hL,haf,hK with
    | 0,ho,hL,haf,hK =>
     cases ho
     (try dsimp only)
     refine Eq.mpr (if_pos (by rfl)) ?_;go_wp2_with fail;exact hK (fun jj=>if jj=28 then .pointer (some ⟨w.heap.size+1+1,2,none⟩) else lx jj) _ ⟨X,SZ,V1,V3,RO,(fun _=>rfl),f1,f2,f3,f4,f5,f6,f7,f8,f9,f10,f11,f12,g11,g1⟩
    | 1,ho,hL,haf,hK =>
     cases ho
     (try dsimp only)
     rw [f0 (haf ⟨0,.data⟩ (by simp) rfl)];refine Eq.mpr (if_pos (by rfl)) ?_;have h13:L 13=false:=by
      cases hh:L 13 with
      | false=>rfl
      | true=>have:=g1 hh;rw [hL] at this;cases this
     obtain ⟨a0,a1,a2⟩:=Vec.three (V3 h13);go_wp2_with fail;exact hK (fun jj=>if jj=29 then .slice p k cc else if jj=28 then .pointer (some ⟨w.heap.size+1+1,2,none⟩) else lx jj) _ ⟨X,SZ,V1,V3,RO,(fun _=>rfl),(fun _=>rfl),f2,f3,f4,f5,f6,f7,f8,f9,f10,f11,f12,g11,(fun _=>rfl)⟩
    | 2,ho,hL,haf,hK =>
     cases ho
     (try dsimp only)
     refine Eq.mpr (if_pos (by rfl)) ?_;go_wp2_with fail;exact hK (fun jj=>if jj=30 then .func (.func f) #[] lb else lx jj) _ ⟨X,SZ,V1,V3,RO,f0,f1,(fun _=>rfl),f3,f4,f5,f6,f7,f8,f9,f10,f11,f12,g11,g1⟩
    | 3,ho,hL,haf,hK =>
     cases ho
     (try dsimp only)
     refine Eq.mpr (if_pos (by rfl)) ?_;go_wp2_with fail;exact hK (fun jj=>if jj=31 then .int .i64 (k:Int) else lx jj) _ ⟨X,SZ,V1,V3,RO,f0,f1,f2,(fun _=>rfl),f4,f5,f6,f7,f8,f9,f10,f11,f12,g11,g1⟩
    | 4,ho,hL,haf,hK =>
     cases ho
     (try dsimp only)
     refine Eq.mpr (if_pos (by rfl)) ?_;go_wp2_with fail;exact hK (fun jj=>if jj=32 then .int .i64 (C:Int) else lx jj) _ ⟨X,SZ,V1,V3,RO,f0,f1,f2,f3,(fun _=>rfl),f5,f6,f7,f8,f9,f10,f11,f12,g11,g1⟩
    | 5,ho,hL,haf,hK =>
     cases ho
     (try dsimp only)
     rw [f3 (haf ⟨3,.data⟩ (by simp) rfl),f4 (haf ⟨4,.data⟩ (by simp) rfl)];refine Eq.mpr (if_pos (by rfl)) ?_;go_wp2_with fail;exact hK (fun jj=>if jj=33 then .int .i64 (a:Int) else if jj=31 then .int .i64 (k:Int) else if jj=32 then .int .i64 (C:Int) else lx jj) _ ⟨X,SZ,V1,V3,RO,f0,f1,f2,(fun _=>rfl),(fun _=>rfl),(fun _=>rfl),f6,f7,f8,f9,f10,f11,f12,g11,g1⟩
    | 6,ho,hL,haf,hK =>
     cases ho
     (try dsimp only)
     refine Eq.mpr (if_pos (by rfl)) ?_;go_wp2_with fail;exact hK (fun jj=>if jj=34 then .int .i64 (k:Int) else lx jj) _ ⟨X,SZ,V1,V3,RO,f0,f1,f2,f3,f4,f5,(fun _=>rfl),f7,f8,f9,f10,f11,f12,g11,g1⟩
    | 7,ho,hL,haf,hK =>
     cases ho
     (try dsimp only)
     refine Eq.mpr (if_pos (by rfl)) ?_;go_wp2_with fail;exact hK (fun jj=>if jj=35 then .int .i64 (C:Int) else lx jj) _ ⟨X,SZ,V1,V3,RO,f0,f1,f2,f3,f4,f5,f6,(fun _=>rfl),f8,f9,f10,f11,f12,g11,g1⟩
    | 8,ho,hL,haf,hK =>
     cases ho
     (try dsimp only)
     rw [f6 (haf ⟨6,.data⟩ (by simp) rfl),f7 (haf ⟨7,.data⟩ (by simp) rfl)];refine Eq.mpr (if_pos (by rfl)) ?_;go_wp2_with fail;exact hK (fun jj=>if jj=36 then .int .i64 (b:Int) else if jj=34 then .int .i64 (k:Int) else if jj=35 then .int .i64 (C:Int) else lx jj) _ ⟨X,SZ,V1,V3,RO,f0,f1,f2,f3,f4,f5,(fun _=>rfl),(fun _=>rfl),(fun _=>rfl),f9,f10,f11,f12,g11,g1⟩
    | 9,ho,hL,haf,hK =>
     cases ho
     (try dsimp only)
     rw [f2 (haf ⟨2,.data⟩ (by simp) rfl),f5 (haf ⟨5,.data⟩ (by simp) rfl),f8 (haf ⟨8,.data⟩ (by simp) rfl)];refine Eq.mpr (if_pos (by rfl)) ?_;have CA:=HA.out.says wl a b X hi1 hj1;go_wp2_with (go_at_fn f;refine CA.mono ?_;rintro e w' ⟨rfl,E⟩);exact hK (fun jj=>if jj=37 then (c a b).val else if jj=30 then .func (.func f) #[] lb else if jj=33 then .int .i64 (a:Int) else if jj=36 then .int .i64 (b:Int) else lx jj) _ ⟨(xt X E),(Nat.le_trans SZ (E).size),(V1.later E),(fun h=>(V3 h).later E),(fun h=>ownW_later (RO h) E),f0,f1,(fun _=>rfl),f3,f4,(fun _=>rfl),f6,f7,(fun _=>rfl),(fun _=>rfl),(fun h=>by obtain ⟨bb,h1,h2,h3⟩:=f10 h;exact ⟨bb,h1,h2,fun h=>(h3 h).later E⟩),(fun h=>by obtain ⟨p',cc',h1,h2,h3,h4⟩:=f11 h;exact ⟨p',cc',h1,ownW_later h2 E,h3,fun h=>(h4 h).later E⟩),f12,g11,g1⟩
    | 10,ho,hL,haf,hK =>
     cases ho
     (try dsimp only)
     rw [f9 (haf ⟨9,.data⟩ (by simp) rfl)];refine Eq.mpr (if_pos (by rfl)) ?_;go_wp2_with fail;exact hK (fun jj=>if jj=38 then .slice (some ⟨wl.heap.size,0,none⟩) 1 1 else if jj=37 then (c a b).val else lx jj) _ ⟨(xa X _),(Nat.le_trans SZ ((x1 _ _)).size),(V1.later (x1 _ _)),(fun h=>(V3 h).later (x1 _ _)),(fun h=>ownW_later (RO h) (x1 _ _)),f0,f1,f2,f3,f4,f5,f6,f7,f8,(fun _=>rfl),(fun _=>⟨wl.heap.size,rfl,SZ,fun _=>vec_made wl (c a b).cells _⟩),(fun h=>by obtain ⟨p',cc',h1,h2,h3,h4⟩:=f11 h;exact ⟨p',cc',h1,ownW_later h2 (x1 _ _),h3,fun h=>(h4 h).later (x1 _ _)⟩),f12,g11,g1⟩
    | 11,ho,hL,haf,hK =>
     cases ho
     (try dsimp only)
     obtain ⟨bb,eb,hbb,hvb⟩:=f10 (haf ⟨10,.data⟩ (by simp) rfl);have hv1:=hvb hL;have O1:=RO hL;rw [f1 (haf ⟨1,.data⟩ (by simp) rfl),eb];refine Eq.mpr (if_pos (by rfl)) ?_;obtain ⟨v',w',hrun,O2,GW,hbl⟩:=app_val wl (w.heap.size+1) (.slice p k cc) _ O1 (c a b) bb hv1 (by rw [gridN_length];omega) (by omega);have O3:OwnW w' (w.heap.size+1) v' (gridN c C (k+1)):=(by rw [HSUC.out];exact O2);obtain ⟨p',cc',ev⟩:∃ p' cc',v'=.slice p' (k+1) cc':=by
      rcases O3.2 with ⟨rfl,h0⟩ | ⟨g,cap,cur,e1,_⟩
      ·rw [gridN_length] at h0;omega
      ·rw [gridN_length] at e1;exact ⟨_,_,e1⟩
     subst ev;have hrow:=ownW_block O1;have hne:=HNE.out;have hne2:(Value.slice p' (k+1) cc').ownBlock ≠ some (w.heap.size+1+1):=fun q=>by
      rcases hbl with h | h
      ·exact hne (h.symm.trans q)
      ·rw [h] at q;have:wl.heap.size=w.heap.size+1+1:=(by simpa using q);omega
     refine Lib.wpList_append_run _ rfl (.tmp 29) (.tmp 38) 23 23 rfl _ _ rfl rfl _ _ hrun ?_;go_wp2_with fail;exact hK (fun jj=>if jj=39 then .slice p' (k+1) cc' else if jj=29 then .slice p k cc else if jj=38 then .slice (some ⟨bb,0,none⟩) 1 1 else lx jj) _ ⟨(ext_grownJ X GW (fun q hq=>by have:=hrow q hq;omega)),(Nat.le_trans SZ GW.size),(vec_keep V1 GW (fun q=>by have:=hrow _ q.symm;omega)),(fun h=>vec_keep (V3 h) GW (fun q=>hne q.symm)),(fun h=>by cases h),f0,(fun _=>rfl),f2,f3,f4,f5,f6,f7,f8,f9,(fun _=>⟨bb,rfl,hbb,(fun h=>by cases h)⟩),(fun _=>⟨p',cc',rfl,O3,hne2,(fun h=>by have h13:L 13=true:=h;have:=g11 h13;rw [hL] at this;cases this)⟩),f12,(fun _=>rfl),g1⟩
    | 12,ho,hL,haf,hK =>
     cases ho
     (try dsimp only)
     refine Eq.mpr (if_pos (by rfl)) ?_;go_wp2_with fail;exact hK (fun jj=>if jj=40 then .pointer (some ⟨w.heap.size+1+1,2,none⟩) else lx jj) _ ⟨X,SZ,V1,V3,RO,f0,f1,f2,f3,f4,f5,f6,f7,f8,f9,f10,f11,(fun _=>rfl),g11,g1⟩
    | 13,ho,hL,haf,hK =>
     cases ho
     (try dsimp only)
     obtain ⟨p',cc',ep,O3,hne2,_⟩:=f11 (haf ⟨11,.data⟩ (by simp) rfl);have V30:=V3 hL;obtain ⟨a0,a1,a2⟩:=Vec.three V30;obtain ⟨z0,z1,z2⟩:=Vec.threeF V30;rw [f12 (haf ⟨12,.data⟩ (by simp) rfl),ep];refine Eq.mpr (if_pos (by rfl)) ?_;have V31:Vec (wl.setCell ⟨w.heap.size+1+1,2,none⟩ (.slice p' (k+1) cc')) (w.heap.size+1+1) [.int .i64 R,.int .i64 C,.slice p' (k+1) cc']:=V30.put 2 (by simp) _;go_wp2_with fail;exact hK (fun jj=>if jj=40 then .pointer (some ⟨w.heap.size+1+1,2,none⟩) else if jj=39 then .slice p' (k+1) cc' else lx jj) _ ⟨(xset X (p:=⟨w.heap.size+1+1,2,none⟩) (by show _≤w.heap.size+1+1;omega) _),(by rw [World.size_setCell];exact SZ),(V1.far (p:=⟨w.heap.size+1+1,2,none⟩) (by show w.heap.size+1+1 ≠ _;omega) _),(fun h=>by cases h),(fun h=>by have h11:L 11=false:=h;rw [haf ⟨11,.data⟩ (by simp) rfl] at h11;cases h11),f0,f1,f2,f3,f4,f5,f6,f7,f8,f9,(fun h=>by obtain ⟨bb,h1,h2,h3⟩:=f10 h;exact ⟨bb,h1,h2,fun h=>(h3 h).far (p:=⟨w.heap.size+1+1,2,none⟩) (by show w.heap.size+1+1 ≠ _;omega) _⟩),(fun _=>⟨p',cc',rfl,ownW_apart O3 (fun g hg q=>hne2 (by rw [hg,← q])),hne2,fun _=>V31⟩),(fun _=>rfl),(fun _=>haf ⟨11,.data⟩ (by simp) rfl),(fun _=>haf ⟨1,.phase⟩ (by simp) rfl)⟩
    | k+14,ho,_,_,_=>simp at ho
   ·intro L lx wl hall hI;obtain ⟨X,SZ,V1,V3,RO,f0,f1,f2,f3,f4,f5,f6,f7,f8,f9,f10,f11,f12,g11,g1⟩:=hI.out;obtain ⟨p',cc',ep,O3,hne2,hV⟩:=f11 (hall 11 (by simp));have V31:=hV (hall 13 (by simp));have HN2:Hid (Ext w wl∧w.heap.size+1+1+1≤wl.heap.size∧Vec wl w.heap.size [.int .i64 0,.int .i64 0,.slice none 0 0]∧Vec wl (w.heap.size+1+1) [.int .i64 R,.int .i64 C,.slice p' (k+1) cc']∧OwnW wl (w.heap.size+1) (.slice p' (k+1) cc') (gridN c C (k+1))∧(Value.slice p' (k+1) cc').ownBlock ≠ some (w.heap.size+1+1)):=⟨X,SZ,V1,V31,O3,hne2⟩;obtain ⟨bb,eb,_,_⟩:=f10 (hall 10 (by simp))
    (try dsimp only)
    rw [f0 (hall 0 (by simp)),f1 (hall 1 (by simp)),f2 (hall 2 (by simp)),f3 (hall 3 (by simp)),f4 (hall 4 (by simp)),f5 (hall 5 (by simp)),f6 (hall 6 (by simp)),f7 (hall 7 (by simp)),f8 (hall 8 (by simp)),f9 (hall 9 (by simp)),f12 (hall 12 (by simp)),eb,ep];clear hI hall X SZ V1 V3 RO f0 f1 f2 f3 f4 f5 f6 f7 f8 f9 f10 f11 f12 g11 g1 ep eb hV O3 V31 hne2;go_wp2_with fail;go_roundw
    case rel=>exact ⟨k+1,cc',p',by omega,by go_num,HN2⟩
    case measure=>simp [intOf];omega
  ·obtain rfl:N=k:=by omega
   obtain ⟨hX,hs,hB1,hB3,hO,hne⟩:=HI.out;obtain ⟨a0,a1,a2⟩:=Vec.three hB3;obtain ⟨wy,hy,FX,⟨b0,b1,b2⟩,⟨fb0,fb1,fb2⟩,fd0,fd1,fd2⟩:=finG hB1 hX (Nat.le_refl _) R C (.slice p N cc);have FO:Hid (OwnW wy w.heap.size (.slice p N cc) (gridN c C N)):=by
    have:=((ownW_far hO (p:=⟨w.heap.size,0,none⟩) (by show w.heap.size<_;omega) (.int .i64 R)));have:=ownW_far this (p:=⟨w.heap.size,1,none⟩) (by show w.heap.size<_;omega) (.int .i64 C);have:=ownW_far this (p:=⟨w.heap.size,2,none⟩) (by show w.heap.size<_;omega) (.slice p N cc);show World.ownsRow _ _ _ _ _ _ _;rw [← hy];exact ownW_base this (by omega)
   clear hB1 hB3 hO HI;go_wp2_with fail;exact bodyPost_ret (v:=grV R C (.slice p N cc)) (by simp [results,Tryd.results14,go_sem,fd0,fd1,fd2]) rfl ⟨_,rfl,FO.out,FX⟩
def joinC (la lb:List VT) (ca cb rt:Nat) (ps:List (Nat × Nat)) (i j:Nat):VT:=
 let q:=ps.getD i (0,0)
 if j<ca then cel la (q.1 * ca+j) else if j - ca<rt - 1 then cel lb (q.2 * cb+(j - ca)) else cel lb (q.2 * cb+(j - ca+1))
set_option maxRecDepth 8000 in
set_option maxHeartbeats 4000000 in
theorem cellJ (la lb:List VT) (ra ca rb cb rt:Nat) (ps:List (Nat × Nat)) (g pc P A B T i j:Nat) (av bv:Value) (w:World)
  (VP:Vec w P [.slice (some ⟨g,0,none⟩) ps.length pc]) (VA:Vec w A [.int .i64 ra,.int .i64 ca,av]) (VT':Vec w T [.int .i64 rt]) (VB:Vec w B [.int .i64 rb,.int .i64 cb,bv])
  (HP:∀ i q,ps[i]?=some q→w.cell? ⟨g,i * 2,none⟩=some (numV q.1)∧w.cell? ⟨g,i * 2+1,none⟩=some (numV q.2))
  (HA:ValsIn w av la) (HB:ValsIn w bv lb) (l1:la.length=ra * ca) (l2:lb.length=rb * cb) (l3:la.length≤2000) (l4:lb.length≤2000) (hi:i<ps.length) (hj:j<ca+cb - 1)
  (hps:∀ q ∈ ps,q.1<ra∧q.2<rb) (h1:1≤rt) (h2:rt≤cb) (hca:ca≤2000) (hcb:cb≤2000) :
  Calls Tryd.prog 15 (#[.int .i64 (i:Int),.int .i64 (j:Int)]++#[.pointer (some ⟨P,0,none⟩),.pointer (some ⟨A,0,none⟩),.pointer (some ⟨T,0,none⟩),.pointer (some ⟨B,0,none⟩)]) w fun z w'=>z=.returned (joinC la lb ca cb rt ps i j).val∧Ext w w':=by
 obtain ⟨⟨x,y⟩,hq⟩:∃ q,ps[i]?=some q:=⟨_,List.getElem?_eq_getElem hi⟩;have hqd:ps.getD i (0,0)=(x,y):=by rw [List.getD_eq_getElem?_getD,hq];rfl
 obtain ⟨hx,hy⟩:=hps _ (List.mem_of_getElem? hq);simp only at hx hy;obtain ⟨c1,c2⟩:=HP i _ hq;simp only at c1 c2;obtain ⟨V,hV⟩:∃ V,joinC la lb ca cb rt ps i j=V:=⟨_,rfl⟩;have HV:Hid ((if j<ca then cel la (x * ca+j) else if j - ca<rt - 1 then cel lb (y * cb+(j - ca)) else cel lb (y * cb+(j - ca+1)))=V):=by
  show _=_;rw [← hV];unfold joinC;rw [hqd]
 rw [hV];obtain ⟨NP,hNP⟩:∃ n,ps.length=n:=⟨_,rfl⟩;rw [hNP] at VP hi;have i2:(i:Int)<(NP:Int):=by omega
 have X1:=x1 w (.cells #[.int .i64 0,.bool false,.int .i64 0,.int .i64 0,sV []] 46);have Z:=vec_made w (valL 0 false 0 0 []) 46;change Vec (w.alloc (.cells #[.int .i64 0,.bool false,.int .i64 0,.int .i64 0,sV []] 46)) _ _ at Z;obtain ⟨u1,hu1⟩:∃ u,w.alloc (.cells #[.int .i64 0,.bool false,.int .i64 0,.int .i64 0,sV []] 46)=u:=⟨_,rfl⟩;rw [hu1] at X1 Z;have p0:=((VP.later X1) 0 _ rfl).1;obtain ⟨a0,a1,a2⟩:=Vec.three (VA.later X1);obtain ⟨b0,b1,b2⟩:=Vec.three (VB.later X1);have t0:=((VT'.later X1) 0 _ rfl).1;have d1:u1.cell? ⟨g,i * 2,none⟩=some (.int .i64 (x:Int)):=cell_later X1 c1;have d2:u1.cell? ⟨g,i * 2+1,none⟩=some (.int .i64 (y:Int)):=cell_later X1 c2;have ATA:Hid (∀ W,Ext w W→j<ca→Calls Tryd.prog 16 #[grV ra ca av,.int .i64 x,.int .i64 j] W fun e w'=>e=.returned (cel la (x * ca+j)).val∧Ext W w'):=fun W hW hjc=>atI ra ca av la x j W (HA.later hW) l3 (by rw [l1];exact place_lt hx hjc);have ATB:Hid (∀ W o,Ext w W→o<cb→Calls Tryd.prog 16 #[grV rb cb bv,.int .i64 y,.int .i64 (o:Nat)] W fun e w'=>e=.returned (cel lb (y * cb+o)).val∧Ext W w'):=fun W o hW ho=>atI rb cb bv lb y o W (HB.later hW) l4 (by rw [l2];exact place_lt hy ho);clear VP VA VT' VB HP HA HB hps hq hqd c1 c2 hV hNP;go_enter Tryd.func15,Tryd.ntmps15;go_wp2_with fail;go_quiet (fail);have Z:=Z.later (xdNv (xr u1) nq);have X1:=xdNv X1 nq;obtain ⟨u2,hu2⟩:∃ u,u1.drewN nq=u:=⟨_,rfl⟩;have a0:(u1.drewN nq).cell? ⟨A,0,none⟩=some (.int .i64 ra):=a0;have a1:(u1.drewN nq).cell? ⟨A,1,none⟩=some (.int .i64 ca):=a1;have a2:(u1.drewN nq).cell? ⟨A,2,none⟩=some av:=a2;have b0:(u1.drewN nq).cell? ⟨B,0,none⟩=some (.int .i64 rb):=b0;have b1:(u1.drewN nq).cell? ⟨B,1,none⟩=some (.int .i64 cb):=b1;have b2:(u1.drewN nq).cell? ⟨B,2,none⟩=some bv:=b2;have t0:(u1.drewN nq).cell? ⟨T,0,none⟩=some (.int .i64 rt):=t0;rw [hu2] at Z X1 a0 a1 a2 b0 b1 b2 t0 ⊢;clear hu2 hu1 p0 d1 d2;by_cases hjc:j<ca
 ·have e0:decide ((j:Int) - (ca:Int)<0)=true:=decide_eq_true (by omega);go_wp2_with fail;clear a0 a1 a2 b0 b1 b2 t0;refine (ATA.out u2 X1 hjc).mono ?_;rintro q w1 ⟨rfl,e1⟩;have Z1:=Z.later e1;have XX:=xt X1 e1;obtain ⟨⟨vk,vn,vd,vx,vt⟩,hv⟩:∃ e,cel la (x * ca+j)=e:=⟨_,rfl⟩;have HVE:Hid (⟨vk,vn,vd,vx,vt⟩=V):=by show _=_;rw [← hv,← HV.out,if_pos hjc]
  rw [hv];obtain ⟨wy,hy,FX,⟨b0,b1,b2,b3,b4⟩,⟨fb0,fb1,fb2,fb3,fb4⟩,fd0,fd1,fd2,fd3,fd4⟩:=fin5 Z1 XX (Nat.le_refl _) vk vn vd vx vt;clear Z Z1 hv;go_wp2_with fail;exact bodyPost_ret (v:=valV vk vn vd vx vt) (by simp [results,Tryd.results15,go_sem,fd0,fd1,fd2,fd3,fd4]) rfl ⟨by rw [← HVE.out],FX⟩
 ·obtain ⟨o,ho⟩:∃ o,j - ca=o:=⟨_,rfl⟩;have ho':(j:Int) - (ca:Int)=(o:Int):=by omega
  have hoc:o<cb - 1:=by omega
  have e0:decide ((o:Int)<0)=false:=decide_eq_false (by omega);rw [ho] at HV;by_cases hor:o<rt - 1
  ·have e1:decide ((o:Int)<(rt:Int) - 1)=true:=decide_eq_true (by omega);clear ho;go_wp2_with fail;clear a0 a1 a2 b0 b1 b2 t0;refine (ATB.out u2 o X1 (by omega)).mono ?_;rintro q w1 ⟨rfl,e1⟩;have Z1:=Z.later e1;have XX:=xt X1 e1;obtain ⟨⟨vk,vn,vd,vx,vt⟩,hv⟩:∃ e,cel lb (y * cb+o)=e:=⟨_,rfl⟩;have HVE:Hid (⟨vk,vn,vd,vx,vt⟩=V):=by show _=_;rw [← hv,← HV.out,if_neg hjc,if_pos hor]
   rw [hv];obtain ⟨wy,hy,FX,⟨b0,b1,b2,b3,b4⟩,⟨fb0,fb1,fb2,fb3,fb4⟩,fd0,fd1,fd2,fd3,fd4⟩:=fin5 Z1 XX (Nat.le_refl _) vk vn vd vx vt;clear Z Z1 hv;go_wp2_with fail;exact bodyPost_ret (v:=valV vk vn vd vx vt) (by simp [results,Tryd.results15,go_sem,fd0,fd1,fd2,fd3,fd4]) rfl ⟨by rw [← HVE.out],FX⟩
  ·have e1:decide ((o:Int)<(rt:Int) - 1)=false:=decide_eq_false (by omega);obtain ⟨o1,ho1⟩:∃ o1,o+1=o1:=⟨_,rfl⟩;have ho2:(o:Int)+1=(o1:Int):=by omega
   rw [ho1] at HV;have hoc1:o1<cb:=by omega
   clear ho ho1;go_wp2_with fail;clear a0 a1 a2 b0 b1 b2 t0;refine (ATB.out u2 o1 X1 hoc1).mono ?_;rintro q w1 ⟨rfl,e1⟩;have Z1:=Z.later e1;have XX:=xt X1 e1;obtain ⟨⟨vk,vn,vd,vx,vt⟩,hv⟩:∃ e,cel lb (y * cb+o1)=e:=⟨_,rfl⟩;have HVE:Hid (⟨vk,vn,vd,vx,vt⟩=V):=by show _=_;rw [← hv,← HV.out,if_neg hjc,if_neg hor]
   rw [hv];obtain ⟨wy,hy,FX,⟨b0,b1,b2,b3,b4⟩,⟨fb0,fb1,fb2,fb3,fb4⟩,fd0,fd1,fd2,fd3,fd4⟩:=fin5 Z1 XX (Nat.le_refl _) vk vn vd vx vt;clear Z Z1 hv;go_wp2_with fail;exact bodyPost_ret (v:=valV vk vn vd vx vt) (by simp [results,Tryd.results15,go_sem,fd0,fd1,fd2,fd3,fd4]) rfl ⟨by rw [← HVE.out],FX⟩
structure Takes (w:World) (fi:Nat) (li:Array Value) (L:List VT) (q:Nat→Bool):Prop where
 ent:∀ args w,(callFunc fi args).run Tryd.prog w=.ok (.enter fi args) w
 says:∀ W sv i,Ext w W→ValsIn W sv L→i<L.length→Calls Tryd.prog fi (#[sv,numV i]++li) W fun e w'=>e=.returned (.bool (q i))∧Ext W w'
theorem good_dims {r c:Int} {l:List VT} (h:goodG r c l=true):∃ R C:Nat,r=R∧c=C∧l.length=R * C∧R * C≤2000∧1≤R∧1≤C∧R≤2000∧C≤2000:=by
 have hg:=goodG_all h;have hs:1≤r∧1≤c∧r * c≤2000∧(l.length:Int)=r * c:=of_decide_eq_true hg.1;obtain ⟨R,rfl⟩:=Int.eq_ofNat_of_zero_le (show 0≤r by omega);obtain ⟨C,rfl⟩:=Int.eq_ofNat_of_zero_le (show 0≤c by omega);have e:((R * C:Nat):Int)=(R:Int) * (C:Int):=by simp
 refine ⟨R,C,rfl,rfl,?_,?_,?_,?_,?_,?_⟩ <;> omega
end Go.Proofs.YtnphbpmdohidcaaDoor

