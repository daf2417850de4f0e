/-
  Several texts in one: J9, J10.
-/
import Derived.Test.YtnphbpmdohidcaaDoorMg20
namespace Go.Proofs.YtnphbpmdohidcaaDoor
open Go.RowKit
def prsJ (la:List VT) (ra ca:Nat) (lb:List VT) (rb cb lt rt:Nat):List (Nat × Nat):=prsN (colL la ca (lt - 1) ra) (colL lb cb (rt - 1) rb) rb ra
def joinN (la:List VT) (ra ca:Nat) (lb:List VT) (rb cb lt rt:Nat):Nat × Nat × List VT:=
 if (prsJ la ra ca lb rb cb lt rt).length=0∨2000<(prsJ la ra ca lb rb cb lt rt).length * (ca+cb - 1) then (0,0,[]) else
 ((prsJ la ra ca lb rb cb lt rt).length,ca+cb - 1,gridN (joinC la lb ca cb rt (prsJ la ra ca lb rb cb lt rt)) (ca+cb - 1) ((prsJ la ra ca lb rb cb lt rt).length * (ca+cb - 1)))
def joinR (ra ca:Int) (la:List VT) (rb cb:Int) (lb:List VT) (lt rt:Int):Nat × Nat × List VT:=
 if goodG ra ca la=true∧goodG rb cb lb=true∧¬ (lt<1∨ca<lt)∧¬ (rt<1∨cb<rt)∧cb ≠ 1 then joinN la ra.toNat ca.toNat lb rb.toNat cb.toNat lt.toNat rt.toNat else (0,0,[])
theorem ownP_apart {w:World} {base:Nat} {v:Value} {l:List (Nat × Nat)} (h:OwnP w base v l) {p:Addr} {u:Value} (hp:∀ g,v.ownBlock=some g→p.block ≠ g):OwnP (w.setCell p u) base v l:=by
 refine ⟨h.1,h.2.imp id ?_⟩;rintro ⟨g,cap,cur,h1,h2,h3,h4⟩;exact ⟨g,cap,cur,h1,h2,by rw [heap_setCell_other _ _ _ _ (by have:=hp g (by rw [h1];rfl);omega)];exact h3,h4⟩
theorem ownP_lt {w:World} {base:Nat} {v:Value} {l:List (Nat × Nat)} (h:OwnP w base v l):∀ g,v.ownBlock=some g→g<w.heap.size:=by
 intro g hg
 rcases h.2 with ⟨rfl,_⟩ | ⟨g',cap,cur,rfl,h2,h3,_⟩
 ·cases hg
 ·have:g'=g:=by simpa [Value.ownBlock] using hg
  subst this
  rcases Nat.lt_or_ge g' w.heap.size with h' | h'
  ·exact h'
  ·rw [Array.getElem?_eq_none h'] at h3;cases h3
theorem vals_far {w:World} {v x:Value} {l:List VT} {b:Nat} (h:ValsIn w v l) (VZ:Vec w b [.slice none 0 0]):ValsIn (w.setCell ⟨b,0,none⟩ x) v l:=by
 obtain ⟨p,cap,h1,h2,h3⟩:=h;refine ⟨p,cap,h1,h2,fun h0=>?_⟩;obtain ⟨g,o,h4,h5⟩:=h3 h0;refine ⟨g,o,h4,fun i e hi c u hc=>?_⟩;have:=h5 i e hi c u hc;rw [World.cell?_setCell_other _ _ _ _ (fun q=>?_)]
 ·exact this
 ·have z:=(VZ 0 _ rfl).1;rw [q] at z;rw [this] at z;have hu:u=.slice none 0 0:=by simpa using z
  subst hu;have h5:=cells_lt hc
  match c,h5,hc with
  | 0,_,hc=>cases hc
  | 1,_,hc=>cases hc
  | 2,_,hc=>cases hc
  | 3,_,hc=>cases hc
  | 4,_,hc=>cases hc
theorem prsN_in (l r:List VT) (R x:Nat):∀ q ∈ prsN l r R x,q.1<x∧q.2<R:=by
 intro q hq;unfold prsN at hq;obtain ⟨i,hi,hq⟩:=List.mem_flatMap.1 hq;obtain ⟨j,hj,rfl⟩:=List.mem_map.1 hq;unfold grpN at hj;exact ⟨List.mem_range.1 hi,List.mem_range.1 (List.mem_filter.1 hj).1⟩
theorem col_good {l:List VT} {R C j:Nat} (hl:l.length=R * C) (hj:j<C) (h:∀ e ∈ l,e.good=true∧e.room):∀ e ∈ colL l C j R,e.good=true∧e.room:=by
 intro e he;obtain ⟨i,hi,rfl⟩:=List.mem_map.1 he;exact h _ (cel_mem (by rw [hl];exact place_lt (List.mem_range.1 hi) hj))
set_option maxRecDepth 8000 in
set_option maxHeartbeats 4000000 in
theorem joinI (ra ca:Int) (av:Value) (la:List VT) (rb cb:Int) (bv:Value) (lb:List VT) (lt rt:Int) (w:World) (ha:ValsIn w av la) (hb:ValsIn w bv lb) (l1:la.length≤1048576) (l2:lb.length≤1048576) (h1:∀ e ∈ la,e.room) (h2:∀ e ∈ lb,e.room) (hT:Tens w) (hE:ErrTab w)
  (lt1 : -9223372036854775808≤lt) (lt2:lt≤9223372036854775807) (rt1 : -9223372036854775808≤rt) (rt2:rt≤9223372036854775807) :
  Calls Tryd.prog 5 #[grV ra ca av,grV rb cb bv,.int .i64 lt,.int .i64 rt] w fun e w'=>∃ sv,e=.returned (grV (joinR ra ca la rb cb lb lt rt).1 (joinR ra ca la rb cb lb lt rt).2.1 sv)∧OwnW w' w.heap.size sv (joinR ra ca la rb cb lb lt rt).2.2∧Ext w w':=by
 obtain ⟨J,hJ⟩:∃ J,joinR ra ca la rb cb lb lt rt=J:=⟨_,rfl⟩;have HJ:Hid (joinR ra ca la rb cb lb lt rt=J):=hJ;rw [hJ];have HVA:Hid (ValsIn w av la):=ha;have HVB:Hid (ValsIn w bv lb):=hb;have CGA:Hid (∀ W,Ext w W→Calls Tryd.prog 10 #[grV ra ca av] W fun e w'=>e=.returned (.bool (goodG ra ca la))∧Ext W w'):=fun W x=>goodGI ra ca av la W (ha.later x) (by omega) (fun e he=>(h1 e he).1) (fun e he=>(h1 e he).2) (hT.later x) (hE.later x);have CGB:Hid (∀ W,Ext w W→Calls Tryd.prog 10 #[grV rb cb bv] W fun e w'=>e=.returned (.bool (goodG rb cb lb))∧Ext W w'):=fun W x=>goodGI rb cb bv lb W (hb.later x) (by omega) (fun e he=>(h2 e he).1) (fun e he=>(h2 e he).2) (hT.later x) (hE.later x);have R1:Hid (∀ e ∈ la,e.room):=h1;have R2:Hid (∀ e ∈ lb,e.room):=h2;obtain ⟨u0,u1,u2,u3,g0,g1,g2,g3,s0,s1,s2,s3,B0,B1,B2,B3,X⟩:=mkB4 w [.int .i64 ra,.int .i64 ca,av] [.int .i64 rb,.int .i64 cb,bv] [.int .i64 rt] [.int .i64 0,.int .i64 0,.slice none 0 0] 25 25 3 25;obtain ⟨pa,na,ca',eva,_,_⟩:∃ p n c,av=.slice p n c∧True∧True:=by obtain ⟨p,c,h,_⟩:=ha;exact ⟨p,_,c,h,trivial,trivial⟩
 obtain ⟨pb,nb,cb',evb,_,_⟩:∃ p n c,bv=.slice p n c∧True∧True:=by obtain ⟨p,c,h,_⟩:=hb;exact ⟨p,_,c,h,trivial,trivial⟩
 subst eva evb;have HZ:Hid (∀ W,Vec W (w.heap.size+1+1+1) [.int .i64 0,.int .i64 0,.slice none 0 0]→Ext w W→J=(0,0,[])→∃ wy,((W.setCell ⟨w.heap.size+1+1+1,0,none⟩ (.int .i64 0)).setCell ⟨w.heap.size+1+1+1,1,none⟩ (.int .i64 0)).setCell ⟨w.heap.size+1+1+1,2,none⟩ (.slice none 0 0)=wy∧Ext w wy):=fun W V hX _=>by
  obtain ⟨wy,hy,FX,_⟩:=finG V hX (by omega) 0 0 (.slice none 0 0);exact ⟨wy,hy,FX⟩
 obtain ⟨a0,a1,a2⟩:=Vec.three B0;clear hJ ha hb h1 h2 hT hE l1 l2;go_enter Tryd.func5,Tryd.ntmps5;go_wp2_with fail;clear a0 a1 a2 g0 g1 g2 g3 s0 s1 s2;refine (CGA.out u3 X).mono ?_;rintro e w1 ⟨rfl,e1⟩;have B01:=B0.later e1;have B11:=B1.later e1;have B21:=B2.later e1;have B31:=B3.later e1;have X1:=xt X e1;clear B0 B1 B2 B3;have SZ1:w.heap.size+1+1+1+1≤w1.heap.size:=by have:=e1.size;omega
 cases hg:goodG ra ca la with
 | false =>
  have hJ0:J=(0,0,[]):=by rw [← HJ.out];unfold joinR;rw [if_neg];rintro ⟨h,_⟩;rw [hg] at h;cases h
  obtain ⟨wy,hy,FX,⟨z0,z1,z2⟩,⟨fz0,fz1,fz2⟩,fd0,fd1,fd2⟩:=finG B31 X1 (by omega) 0 0 (.slice none 0 0);subst hJ0;go_wp2_with fail;exact bodyPost_ret (v:=grV 0 0 (.slice none 0 0)) (by simp [results,Tryd.results5,go_sem,fd0,fd1,fd2]) rfl ⟨_,rfl,World.ownsRow_nil _ _ _ _,FX⟩
 | true =>
  have HGA:Hid (goodG ra ca la=true):=hg;clear hg;obtain ⟨b0,b1,b2⟩:=Vec.three B11;go_wp2_with fail;clear b0 b1 b2;refine (CGB.out w1 X1).mono ?_;rintro e w2 ⟨rfl,e2⟩;have SZ2:w.heap.size+1+1+1+1≤w2.heap.size:=Nat.le_trans SZ1 e2.size;have B02:=B01.later e2;have B12:=B11.later e2;have B22:=B21.later e2;have B32:=B31.later e2;have X2:=xt X1 e2;clear B01 B11 B21 B31;cases hg:goodG rb cb lb with
  | false =>
   have hJ0:J=(0,0,[]):=by rw [← HJ.out];unfold joinR;rw [if_neg];rintro ⟨_,h,_⟩;rw [hg] at h;cases h
   obtain ⟨wy,hy,FX,⟨z0,z1,z2⟩,⟨fz0,fz1,fz2⟩,fd0,fd1,fd2⟩:=finG B32 X2 (by omega) 0 0 (.slice none 0 0);subst hJ0;go_wp2_with fail;exact bodyPost_ret (v:=grV 0 0 (.slice none 0 0)) (by simp [results,Tryd.results5,go_sem,fd0,fd1,fd2]) rfl ⟨_,rfl,World.ownsRow_nil _ _ _ _,FX⟩
  | true =>
   have HGB:Hid (goodG rb cb lb=true):=hg;clear hg;obtain ⟨a0,a1,a2⟩:=Vec.three B02;go_wp2_with fail;clear a0 a1 a2;refine (lacksI ra ca _ lt w2).mono ?_;rintro e w3 ⟨rfl,e3⟩;have SZ3:w.heap.size+1+1+1+1≤w3.heap.size:=Nat.le_trans SZ2 e3.size;have B03:=B02.later e3;have B13:=B12.later e3;have B23:=B22.later e3;have B33:=B32.later e3;have X3:=xt X2 e3;clear B02 B12 B22 B32;cases hg:decide (lt<1∨ca<lt) with
   | true =>
    have hJ0:J=(0,0,[]):=(by rw [← HJ.out];unfold joinR;rw [if_neg];rintro ⟨_,_,h,_⟩;exact h (of_decide_eq_true hg));obtain ⟨wy,hy,FX,⟨z0,z1,z2⟩,⟨fz0,fz1,fz2⟩,fd0,fd1,fd2⟩:=finG B33 X3 (by omega) 0 0 (.slice none 0 0);subst hJ0;go_wp2_with fail;exact bodyPost_ret (v:=grV 0 0 (.slice none 0 0)) (by simp [results,Tryd.results5,go_sem,fd0,fd1,fd2]) rfl ⟨_,rfl,World.ownsRow_nil _ _ _ _,FX⟩
   | false =>
    have HLT:Hid (¬ (lt<1∨ca<lt)):=of_decide_eq_false hg;clear hg;obtain ⟨b0,b1,b2⟩:=Vec.three B13;have c0:=(B23 0 _ rfl).1;go_wp2_with fail;clear b0 b1 b2 c0;refine (lacksI rb cb _ rt w3).mono ?_;rintro e w4 ⟨rfl,e4⟩;have SZ4:w.heap.size+1+1+1+1≤w4.heap.size:=Nat.le_trans SZ3 e4.size;have B04:=B03.later e4;have B14:=B13.later e4;have B24:=B23.later e4;have B34:=B33.later e4;have X4:=xt X3 e4;clear B03 B13 B23 B33;cases hg:decide (rt<1∨cb<rt) with
    | true =>
     have hJ0:J=(0,0,[]):=(by rw [← HJ.out];unfold joinR;rw [if_neg];rintro ⟨_,_,_,h,_⟩;exact h (of_decide_eq_true hg));obtain ⟨wy,hy,FX,⟨z0,z1,z2⟩,⟨fz0,fz1,fz2⟩,fd0,fd1,fd2⟩:=finG B34 X4 (by omega) 0 0 (.slice none 0 0);subst hJ0;go_wp2_with fail;exact bodyPost_ret (v:=grV 0 0 (.slice none 0 0)) (by simp [results,Tryd.results5,go_sem,fd0,fd1,fd2]) rfl ⟨_,rfl,World.ownsRow_nil _ _ _ _,FX⟩
    | false =>
     have HRT:Hid (¬ (rt<1∨cb<rt)):=of_decide_eq_false hg;clear hg;obtain ⟨a0,a1,a2⟩:=Vec.three B04;obtain ⟨b0,b1,b2⟩:=Vec.three B14;have c0:=(B24 0 _ rfl).1;by_cases hc1:cb=1
     ·have hcb1:(cb == 1)=true:=(by simpa using hc1);have hJ0:J=(0,0,[]):=(by rw [← HJ.out];unfold joinR;rw [if_neg];rintro ⟨_,_,_,_,h⟩;exact h hc1);obtain ⟨wy,hy,FX,⟨z0,z1,z2⟩,⟨fz0,fz1,fz2⟩,fd0,fd1,fd2⟩:=finG B34 X4 (by omega) 0 0 (.slice none 0 0);subst hJ0;clear hc1;go_wp2_with fail;exact bodyPost_ret (v:=grV 0 0 (.slice none 0 0)) (by simp [results,Tryd.results5,go_sem,fd0,fd1,fd2]) rfl ⟨_,rfl,World.ownsRow_nil _ _ _ _,FX⟩
     ·have hcb1:(cb == 1)=false:=(by simpa using hc1);have HJN:Hid (J=joinN la ra.toNat ca.toNat lb rb.toNat cb.toNat lt.toNat rt.toNat):=(by show _=_;rw [← HJ.out];unfold joinR;rw [if_pos ⟨HGA.out,HGB.out,HLT.out,HRT.out,hc1⟩]);have hga:=(goodG_all HGA.out).2.1;have hgb:=(goodG_all HGB.out).2.1;obtain ⟨RA,CA,hra,hca,hla,la1,la2,la3,la4,la5⟩:=good_dims HGA.out;obtain ⟨RB,CB,hrb,hcb,hlb,lb1,lb2,lb3,lb4,lb5⟩:=good_dims HGB.out;have hlt:=HLT.out;have hrt:=HRT.out;obtain ⟨LT,hLT⟩:=Int.eq_ofNat_of_zero_le (show 0≤lt by omega);obtain ⟨RT,hRT⟩:=Int.eq_ofNat_of_zero_le (show 0≤rt by omega);subst hra hca hrb hcb hLT hRT;simp only [Int.toNat_natCast] at HJN;have t1:1≤LT:=(by omega);have t2:LT≤CA:=(by omega);have t3:1≤RT:=(by omega);have t4:RT≤CB:=(by omega);have t5:2≤CB:=(by omega);obtain ⟨C,hC⟩:∃ C,CA+CB - 1=C:=⟨_,rfl⟩;have hC1:(CA:Int)+(CB:Int)=(C:Int)+1:=(by omega);have hC2:(C:Int)+1 - 1=(C:Int):=(by omega);have hC3:(CA:Int)+(CB:Int) - 1=(C:Int):=(by omega);have C1:2≤C:=(by omega);have C2:C≤4000:=(by omega);have HCV:Hid (CA+CB - 1=C):=hC;have HGDA:Hid (∀ e ∈ la,e.good=true∧e.room):=fun e he=>⟨hga e he,R1.out e he⟩;have HGDB:Hid (∀ e ∈ lb,e.good=true∧e.room):=fun e he=>⟨hgb e he,R2.out e he⟩;have HLA:Hid (la.length=RA * CA):=hla;have HLB:Hid (lb.length=RB * CB):=hlb;have HLA2:Hid (la.length≤2000):=(by show _≤_;omega);have HLB2:Hid (lb.length≤2000):=(by show _≤_;omega);clear HGA HGB HLT HRT hga hgb hlt hrt hc1 lt1 lt2 rt1 rt2 HJ HZ CGA CGB R1 R2 hC hla hlb la1 lb1;go_wp2_with fail;clear a0 a1 a2 b0 b1 b2 c0 hcb1 hC1 hC2 hC3;obtain ⟨L1,hL1⟩:∃ z,LT - 1=z:=⟨_,rfl⟩;obtain ⟨T1,hT1⟩:∃ z,RT - 1=z:=⟨_,rfl⟩;have hL1':(LT:Int) - 1=(L1:Int):=(by omega);have hT1':(RT:Int) - 1=(T1:Int):=(by omega);obtain ⟨Q,hQ⟩:∃ Q,2000 / C=Q:=⟨_,rfl⟩;have hQ1:(2000:Int) / (C:Int)=(Q:Int):=(by rw [← hQ];rfl);have hQ2:(2000:Int).tdiv (C:Int)=(Q:Int):=(by rw [Int.tdiv_eq_ediv_of_nonneg (by omega),hQ1]);have hQ3:Q≤2000:=(by rw [← hQ];exact Nat.div_le_self _ _);have c0:¬ ((C:Int)=0):=(by omega);have c0':((C:Int) == 0)=false:=(by simpa using c0);obtain ⟨colA,hcA⟩:∃ l,colL la CA L1 RA=l:=⟨_,rfl⟩;obtain ⟨colB,hcB⟩:∃ l,colL lb CB T1 RB=l:=⟨_,rfl⟩;have CCA:Hid (∀ W,Ext w W→Calls Tryd.prog 13 #[grV RA CA (.slice pa na ca'),.int .i64 (L1:Int)] W fun e w'=>∃ sv,e=.returned sv∧OwnW w' W.heap.size sv colA∧Ext W w'):=fun W x=>(by rw [← hcA];exact columnI RA CA _ la L1 W (HVA.out.later x) HLA.out HLA2.out (by omega) (by omega));have CCB:Hid (∀ W,Ext w W→Calls Tryd.prog 13 #[grV RB CB (.slice pb nb cb'),.int .i64 (T1:Int)] W fun e w'=>∃ sv,e=.returned sv∧OwnW w' W.heap.size sv colB∧Ext W w'):=fun W x=>(by rw [← hcB];exact columnI RB CB _ lb T1 W (HVB.out.later x) HLB.out HLB2.out (by omega) (by omega));obtain ⟨PS,hPS⟩:∃ l,prsR colA colB Q=l:=⟨_,rfl⟩;have lcA:colA.length=RA:=(by rw [← hcA,colL_length]);have lcB:colB.length=RB:=(by rw [← hcB,colL_length]);have CCP:Hid (∀ W u v,ValsIn W u colA→ValsIn W v colB→Calls Tryd.prog 12 #[u,v,.int .i64 (Q:Int)] W fun e w'=>∃ v,e=.returned v∧OwnP w' W.heap.size v PS∧Ext W w'):=fun W u v hu hv=>by
       rw [← hPS];exact pairedI u v colA colB Q W hu hv (by rw [lcA];omega) (by rw [lcB];omega) (by rw [← hcA];exact col_good HLA.out (by omega) HGDA.out) (by rw [← hcB];exact col_good HLB.out (by omega) HGDB.out) hQ3
      have HPS:Hid (PS=if Q<(prsJ la RA CA lb RB CB LT RT).length then [] else prsJ la RA CA lb RB CB LT RT):=by
       show _=_;rw [← hPS];unfold prsR prsJ;rw [lcA,lcB,← hcA,← hcB,hL1,hT1]
      have HQV:Hid (2000 / C=Q):=hQ;clear hL1 hT1 hQ hcA hcB hPS lcA lcB;refine wp_region_letters_g (fun lx:Nat→Value=>{ tmps:=#[grV ((RA:Int)) ((CA:Int)) (Value.slice pa na ca'),grV ((RB:Int)) ((CB:Int)) (Value.slice pb nb cb'),Value.int .i64 (LT:Int),Value.int .i64 (RT:Int),Value.pointer (some ⟨w.heap.size,0,none⟩),Value.pointer (some ⟨w.heap.size+1,0,none⟩),undef,Value.pointer (some ⟨w.heap.size+1+1,0,none⟩),Value.pointer (some ⟨w.heap.size+1+1+1,0,none⟩),Value.int .i64 (C:Int),lx 10,Value.agg #[Value.int .i64 (RA:Int),Value.int .i64 (CA:Int),Value.slice pa na ca'],Value.bool true,Value.bool false,Value.bool false,Value.agg #[Value.int .i64 (RB:Int),Value.int .i64 (CB:Int),Value.slice pb nb cb'],Value.bool true,Value.bool false,Value.bool false,Value.bool false,Value.agg #[Value.int .i64 (RA:Int),Value.int .i64 (CA:Int),Value.slice pa na ca'],Value.int .i64 (LT:Int),Value.bool false,Value.bool false,Value.bool false,Value.agg #[Value.int .i64 (RB:Int),Value.int .i64 (CB:Int),Value.slice pb nb cb'],Value.int .i64 (RT:Int),Value.bool false,Value.bool false,Value.bool false,Value.pointer (some ⟨w.heap.size+1,1,none⟩),Value.int .i64 (CB:Int),Value.bool false,Value.bool false,undef,Value.pointer (some ⟨w.heap.size,1,none⟩),Value.int .i64 (CA:Int),Value.pointer (some ⟨w.heap.size+1,1,none⟩),Value.int .i64 (CB:Int),Value.int .i64 ((C:Int)+1),Value.int .i64 (C:Int),lx 41,lx 42,lx 43,lx 44,lx 45,lx 46,lx 47,lx 48,lx 49,lx 50,lx 51,undef,undef,undef,undef,undef,undef,undef,undef,undef],defers:=[] }) (fun L lx lw=>Hid (Ext w lw∧w.heap.size+1+1+1+1≤lw.heap.size∧Vec lw (w.heap.size) [.int .i64 (RA:Int),.int .i64 (CA:Int),.slice pa na ca']∧Vec lw (w.heap.size+1) [.int .i64 (RB:Int),.int .i64 (CB:Int),.slice pb nb cb']∧Vec lw (w.heap.size+1+1) [.int .i64 (RT:Int)]∧Vec lw (w.heap.size+1+1+1) [.int .i64 0,.int .i64 0,.slice none 0 0]∧(L 0=true→lx 41=.agg #[.int .i64 (RA:Int),.int .i64 (CA:Int),.slice pa na ca'])∧(L 1=true→lx 42=.int .i64 (LT:Int))∧(L 2=true→lx 43=.int .i64 (L1:Int))∧(L 3=true→ValsIn lw (lx 44) colA)∧(L 4=true→lx 45=.agg #[.int .i64 (RB:Int),.int .i64 (CB:Int),.slice pb nb cb'])∧(L 5=true→lx 46=.int .i64 (RT:Int))∧(L 6=true→lx 47=.int .i64 (T1:Int))∧(L 7=true→ValsIn lw (lx 48) colB)∧(L 8=true→lx 49=.int .i64 (C:Int))∧(L 9=true→lx 50=.int .i64 (Q:Int))∧(L 10=true→∃ base,w.heap.size+1+1+1+1≤base∧OwnP lw base (lx 51) PS)∧(L 11=true→∃ b,lx 10=.pointer (some ⟨b,0,none⟩)∧w.heap.size+1+1+1+1≤b∧b<lw.heap.size∧(L 12=false→Vec lw b [.slice none 0 0])∧(L 12=true→Vec lw b [lx 51])∧(L 10=true→(lx 51).ownBlock ≠ some b))∧(L 12=true→L 10=true)∧(L 12=true→L 11=true))) rfl (by kernel_rfl) (fun _=>undef) rfl ?_ ?_ ?_
      ·exact ⟨xd X4,by show _≤w4.heap.size;exact SZ4,B04.later (xd (xr _)),B14.later (xd (xr _)),B24.later (xd (xr _)),B34.later (xd (xr _)),(fun h=>by cases h),(fun h=>by cases h),(fun h=>by cases h),(fun h=>by cases h),(fun h=>by cases h),(fun h=>by cases h),(fun h=>by cases h),(fun h=>by cases h),(fun h=>by cases h),(fun h=>by cases h),(fun h=>by cases h),(fun h=>by cases h),(fun h=>by cases h),(fun h=>by cases h)⟩
      ·intro L lx wl i o K hK ho hL haf hI;obtain ⟨X,SZ,V0,V1,V2,V3,f0,f1,f2,f3,f4,f5,f6,f7,f8,f9,f10,f11,g10,g11⟩:=hI.out
       match i,ho,hL,haf,hK with
       | 0,ho,hL,haf,hK =>
        cases ho
        (try dsimp only)
        refine Eq.mpr (if_pos (by rfl)) ?_;obtain ⟨a0,a1,a2⟩:=Vec.three V0;go_wp2_with fail;exact hK (fun jj=>if jj=41 then .agg #[.int .i64 (RA:Int),.int .i64 (CA:Int),.slice pa na ca'] else lx jj) _ ⟨X,SZ,V0,V1,V2,V3,(fun _=>rfl),f1,f2,f3,f4,f5,f6,f7,f8,f9,f10,f11,g10,g11⟩
       | 1,ho,hL,haf,hK =>
        cases ho
        (try dsimp only)
        refine Eq.mpr (if_pos (by rfl)) ?_;go_wp2_with fail;exact hK (fun jj=>if jj=42 then .int .i64 (LT:Int) else lx jj) _ ⟨X,SZ,V0,V1,V2,V3,f0,(fun _=>rfl),f2,f3,f4,f5,f6,f7,f8,f9,f10,f11,g10,g11⟩
       | 2,ho,hL,haf,hK =>
        cases ho
        (try dsimp only)
        rw [f1 (haf ⟨1,.data⟩ (by simp) rfl)];refine Eq.mpr (if_pos (by rfl)) ?_;go_wp2_with fail;exact hK (fun jj=>if jj=43 then .int .i64 (L1:Int) else if jj=42 then .int .i64 (LT:Int) else lx jj) _ ⟨X,SZ,V0,V1,V2,V3,f0,(fun _=>rfl),(fun _=>rfl),f3,f4,f5,f6,f7,f8,f9,f10,f11,g10,g11⟩
       | 3,ho,hL,haf,hK =>
        cases ho
        (try dsimp only)
        rw [f0 (haf ⟨0,.data⟩ (by simp) rfl),f2 (haf ⟨2,.data⟩ (by simp) rfl)];refine Eq.mpr (if_pos (by rfl)) ?_;go_wp2_with fail;refine (CCA.out wl X).mono ?_;rintro q w' ⟨sv,rfl,OV,E⟩;go_wp2_with fail;exact hK (fun jj=>if jj=44 then sv else if jj=41 then .agg #[.int .i64 (RA:Int),.int .i64 (CA:Int),.slice pa na ca'] else if jj=43 then .int .i64 (L1:Int) else lx jj) _ ⟨(xt X E),(Nat.le_trans SZ (E).size),(V0.later E),(V1.later E),(V2.later E),(V3.later E),(fun _=>rfl),f1,(fun _=>rfl),(fun _=>ownW_vals OV),f4,f5,f6,(fun h=>(f7 h).later E),f8,f9,(fun h=>by obtain ⟨b,h1,h2⟩:=f10 h;exact ⟨b,h1,ownP_later h2 E⟩),(fun h=>by obtain ⟨b,h1,h2,h3,h4,h5,h6⟩:=f11 h;exact ⟨b,h1,h2,Nat.lt_of_lt_of_le h3 (E).size,fun h=>(h4 h).later E,fun h=>(h5 h).later E,h6⟩),g10,g11⟩
       | 4,ho,hL,haf,hK =>
        cases ho
        (try dsimp only)
        refine Eq.mpr (if_pos (by rfl)) ?_;obtain ⟨a0,a1,a2⟩:=Vec.three V1;go_wp2_with fail;exact hK (fun jj=>if jj=45 then .agg #[.int .i64 (RB:Int),.int .i64 (CB:Int),.slice pb nb cb'] else lx jj) _ ⟨X,SZ,V0,V1,V2,V3,f0,f1,f2,f3,(fun _=>rfl),f5,f6,f7,f8,f9,f10,f11,g10,g11⟩
       | 5,ho,hL,haf,hK =>
        cases ho
        (try dsimp only)
        refine Eq.mpr (if_pos (by rfl)) ?_;have a0:=(V2 0 _ rfl).1;go_wp2_with fail;exact hK (fun jj=>if jj=46 then .int .i64 (RT:Int) else lx jj) _ ⟨X,SZ,V0,V1,V2,V3,f0,f1,f2,f3,f4,(fun _=>rfl),f6,f7,f8,f9,f10,f11,g10,g11⟩
       | 6,ho,hL,haf,hK =>
        cases ho
        (try dsimp only)
        rw [f5 (haf ⟨5,.data⟩ (by simp) rfl)];refine Eq.mpr (if_pos (by rfl)) ?_;go_wp2_with fail;exact hK (fun jj=>if jj=47 then .int .i64 (T1:Int) else if jj=46 then .int .i64 (RT:Int) else lx jj) _ ⟨X,SZ,V0,V1,V2,V3,f0,f1,f2,f3,f4,(fun _=>rfl),(fun _=>rfl),f7,f8,f9,f10,f11,g10,g11⟩
       | 7,ho,hL,haf,hK =>
        cases ho
        (try dsimp only)
        rw [f4 (haf ⟨4,.data⟩ (by simp) rfl),f6 (haf ⟨6,.data⟩ (by simp) rfl)];refine Eq.mpr (if_pos (by rfl)) ?_;go_wp2_with fail;refine (CCB.out wl X).mono ?_;rintro q w' ⟨sv,rfl,OV,E⟩;go_wp2_with fail;exact hK (fun jj=>if jj=48 then sv else if jj=45 then .agg #[.int .i64 (RB:Int),.int .i64 (CB:Int),.slice pb nb cb'] else if jj=47 then .int .i64 (T1:Int) else lx jj) _ ⟨(xt X E),(Nat.le_trans SZ (E).size),(V0.later E),(V1.later E),(V2.later E),(V3.later E),f0,f1,f2,(fun h=>(f3 h).later E),(fun _=>rfl),f5,(fun _=>rfl),(fun _=>ownW_vals OV),f8,f9,(fun h=>by obtain ⟨b,h1,h2⟩:=f10 h;exact ⟨b,h1,ownP_later h2 E⟩),(fun h=>by obtain ⟨b,h1,h2,h3,h4,h5,h6⟩:=f11 h;exact ⟨b,h1,h2,Nat.lt_of_lt_of_le h3 (E).size,fun h=>(h4 h).later E,fun h=>(h5 h).later E,h6⟩),g10,g11⟩
       | 8,ho,hL,haf,hK =>
        cases ho
        (try dsimp only)
        refine Eq.mpr (if_pos (by rfl)) ?_;go_wp2_with fail;exact hK (fun jj=>if jj=49 then .int .i64 (C:Int) else lx jj) _ ⟨X,SZ,V0,V1,V2,V3,f0,f1,f2,f3,f4,f5,f6,f7,(fun _=>rfl),f9,f10,f11,g10,g11⟩
       | 9,ho,hL,haf,hK =>
        cases ho
        (try dsimp only)
        rw [f8 (haf ⟨8,.data⟩ (by simp) rfl)];refine Eq.mpr (if_pos (by rfl)) ?_;go_wp2_with fail;exact hK (fun jj=>if jj=50 then .int .i64 (Q:Int) else if jj=49 then .int .i64 (C:Int) else lx jj) _ ⟨X,SZ,V0,V1,V2,V3,f0,f1,f2,f3,f4,f5,f6,f7,(fun _=>rfl),(fun _=>rfl),f10,f11,g10,g11⟩
       | 10,ho,hL,haf,hK =>
        cases ho
        (try dsimp only)
        have I3:=f3 (haf ⟨3,.data⟩ (by simp) rfl);have I7:=f7 (haf ⟨7,.data⟩ (by simp) rfl);rw [f9 (haf ⟨9,.data⟩ (by simp) rfl)];refine Eq.mpr (if_pos (by rfl)) ?_;go_wp2_with fail;refine (CCP.out wl _ _ I3 I7).mono ?_;rintro q w' ⟨pv,rfl,OP,E⟩;go_wp2_with fail;exact hK (fun jj=>if jj=51 then pv else if jj=50 then .int .i64 (Q:Int) else lx jj) _ ⟨(xt X E),(Nat.le_trans SZ (E).size),(V0.later E),(V1.later E),(V2.later E),(V3.later E),f0,f1,f2,(fun h=>(f3 h).later E),f4,f5,f6,(fun h=>(f7 h).later E),f8,(fun _=>rfl),(fun _=>⟨wl.heap.size,SZ,OP⟩),(fun h=>by obtain ⟨b,h1,h2,h3,h4,h5,h6⟩:=f11 h;exact ⟨b,h1,h2,Nat.lt_of_lt_of_le h3 E.size,(fun h=>(h4 h).later E),(fun h=>by have h12:L 12=true:=h;have:=g10 h12;rw [hL] at this;cases this),fun _ q=>by have:=ownP_block OP _ q;omega⟩),(fun _=>rfl),g11⟩
       | 11,ho,hL,haf,hK =>
        cases ho
        (try dsimp only)
        refine Eq.mpr (if_pos (by rfl)) ?_;go_wp2_with fail;exact hK (fun jj=>if jj=10 then .pointer (some ⟨wl.heap.size,0,none⟩) else lx jj) _ ⟨(xa X _),(Nat.le_trans SZ ((x1 _ _)).size),(V0.later (x1 _ _)),(V1.later (x1 _ _)),(V2.later (x1 _ _)),(V3.later (x1 _ _)),f0,f1,f2,(fun h=>(f3 h).later (x1 _ _)),f4,f5,f6,(fun h=>(f7 h).later (x1 _ _)),f8,f9,(fun h=>by obtain ⟨b,h1,h2⟩:=f10 h;exact ⟨b,h1,ownP_later h2 (x1 _ _)⟩),(fun _=>⟨wl.heap.size,rfl,SZ,by rw [World.size_alloc];omega,(fun _=>vec_made wl [.slice none 0 0] _),(fun h=>by have h12:L 12=true:=h;have:=g11 h12;rw [hL] at this;cases this),fun h q=>by obtain ⟨b,_,O⟩:=f10 h;have:=ownP_lt O _ q;omega⟩),g10,(fun _=>rfl)⟩
       | 12,ho,hL,haf,hK =>
        cases ho
        (try dsimp only)
        obtain ⟨b,eb,hb1,hb2,hz,_,hne⟩:=f11 (haf ⟨11,.data⟩ (by simp) rfl);obtain ⟨base,hbase,OP⟩:=f10 (haf ⟨10,.data⟩ (by simp) rfl);have hne:=hne (haf ⟨10,.data⟩ (by simp) rfl);have VZ:=hz hL;have z0:=(VZ 0 _ rfl).1;have z1:=(VZ 0 _ rfl).2;obtain ⟨pq,cq,eq,_⟩:=ownP_slice OP;rw [eb];refine Eq.mpr (if_pos (by rfl)) ?_;have VN:Vec (wl.setCell ⟨b,0,none⟩ (lx 51)) b [lx 51]:=VZ.put 0 (by simp) _;have OP2:=ownP_apart (p:=⟨b,0,none⟩) (u:=lx 51) OP (fun g hg q=>hne (by rw [hg,← q]));rw [eq] at VN OP2 hne ⊢;go_wp2_with fail;exact hK (fun jj=>if jj=10 then .pointer (some ⟨b,0,none⟩) else if jj=51 then .slice pq PS.length cq else lx jj) _ ⟨(xset X (p:=⟨b,0,none⟩) (by show _≤b;omega) _),(by rw [World.size_setCell];exact SZ),(V0.far (p:=⟨b,0,none⟩) (by show b ≠ _;omega) _),(V1.far (p:=⟨b,0,none⟩) (by show b ≠ _;omega) _),(V2.far (p:=⟨b,0,none⟩) (by show b ≠ _;omega) _),(V3.far (p:=⟨b,0,none⟩) (by show b ≠ _;omega) _),f0,f1,f2,(fun h=>by have:=f3 h;exact vals_far this VZ),f4,f5,f6,(fun h=>by have:=f7 h;exact vals_far this VZ),f8,f9,(fun _=>⟨base,hbase,OP2⟩),(fun _=>⟨b,rfl,hb1,by rw [World.size_setCell];exact hb2,(fun h=>by cases h),(fun _=>VN),fun _=>hne⟩),(fun _=>haf ⟨10,.data⟩ (by simp) rfl),(fun _=>haf ⟨11,.data⟩ (by simp) rfl)⟩
       | k+13,ho,_,_,_=>simp at ho
      ·intro L lx wl hall hI;obtain ⟨X,SZ,V0,V1,V2,V3,f0,f1,f2,f3,f4,f5,f6,f7,f8,f9,f10,f11,g10,g11⟩:=hI.out;obtain ⟨base,hbase,OP⟩:=f10 (hall 10 (by simp));obtain ⟨P,eb,hP1,hP2,_,hPV,_⟩:=f11 (hall 11 (by simp));have VP:=hPV (hall 12 (by simp));obtain ⟨pq,cq,eq,hcq⟩:=ownP_slice OP;obtain ⟨q44,e44⟩:∃ q,lx 44=q:=⟨_,rfl⟩;obtain ⟨q48,e48⟩:∃ q,lx 48=q:=⟨_,rfl⟩;rw [eq] at OP VP
       (try dsimp only)
       rw [f0 (hall 0 (by simp)),f1 (hall 1 (by simp)),f2 (hall 2 (by simp)),f4 (hall 4 (by simp)),f5 (hall 5 (by simp)),f6 (hall 6 (by simp)),f8 (hall 8 (by simp)),f9 (hall 9 (by simp)),e44,e48,eq,eb];clear hI hall e44 e48 eq eb f0 f1 f2 f3 f4 f5 f6 f7 f8 f9 f10 f11 g10 g11 hPV;obtain ⟨NP,hNP⟩:∃ n,PS.length=n:=⟨_,rfl⟩;rw [hNP] at VP hcq ⊢;have HNP:Hid (PS.length=NP):=hNP;have HOP:Hid (OwnP wl base (.slice pq NP cq) PS):=(by rw [← hNP];exact OP);clear hNP OP;have p0:=(VP 0 _ rfl).1;by_cases hz:NP=0
       ·have hz1:((NP:Int) == 0)=true:=(by rw [hz];rfl);have hJ0:J=(0,0,[]):=by
         rw [HJN.out];unfold joinN;have h0:=HNP.out;rw [hz,HPS.out] at h0;by_cases hq:Q<(prsJ la RA CA lb RB CB LT RT).length
         ·refine if_pos (Or.inr ?_);rw [HCV.out];have:2000 / C<(prsJ la RA CA lb RB CB LT RT).length:=(by rw [HQV.out];exact hq);exact (Nat.div_lt_iff_lt_mul (by omega)).1 this
         ·rw [if_neg hq] at h0;exact if_pos (Or.inl h0)
        obtain ⟨wy,hy,FX,⟨z0,z1,z2⟩,⟨fz0,fz1,fz2⟩,fd0,fd1,fd2⟩:=finG V3 X (by omega) 0 0 (.slice none 0 0);subst hJ0;go_wp2_with fail;exact bodyPost_ret (v:=grV 0 0 (.slice none 0 0)) (by simp [results,Tryd.results5,go_sem,fd0,fd1,fd2]) rfl ⟨_,rfl,World.ownsRow_nil _ _ _ _,FX⟩
       ·have hz1:((NP:Int) == 0)=false:=(by simpa using hz);obtain ⟨hqn,hPSJ⟩:¬ Q<(prsJ la RA CA lb RB CB LT RT).length∧PS=prsJ la RA CA lb RB CB LT RT:=by
         have h0:=HPS.out;by_cases hq:Q<(prsJ la RA CA lb RB CB LT RT).length
         ·rw [if_pos hq] at h0;have:=HNP.out;rw [h0] at this;exact absurd this.symm hz
         ·rw [if_neg hq] at h0;exact ⟨hq,h0⟩
        have hNC:NP * C≤2000:=by
         rw [← hPSJ,HNP.out,← HQV.out] at hqn;have:NP≤2000 / C:=(by omega);exact (Nat.le_div_iff_mul_le (by omega)).1 this
        have HJ2:Hid (J=(NP,C,gridN (joinC la lb CA CB RT PS) C (NP * C))):=by
         show _=_;rw [HJN.out];unfold joinN;rw [← hPSJ,HNP.out,HCV.out,if_neg (by omega)]
        have HPR:Hid (∀ q ∈ PS,q.1<RA∧q.2<RB):=by
         rw [hPSJ];unfold prsJ;exact prsN_in _ _ _ _
        obtain ⟨g,hpq⟩:∃ g,pq=some ⟨g,0,none⟩:=by
         rcases HOP.out.2 with ⟨e,h0⟩ | ⟨g,cap,cur,e,_⟩
         ·rw [HNP.out] at h0;exact absurd h0 hz
         ·cases e;exact ⟨g,rfl⟩
        subst hpq;have ASK:Hid (AsksC wl 15 #[.pointer (some ⟨P,0,none⟩),.pointer (some ⟨w.heap.size,0,none⟩),.pointer (some ⟨w.heap.size+1+1,0,none⟩),.pointer (some ⟨w.heap.size+1,0,none⟩)] NP C (joinC la lb CA CB RT PS)):=⟨enters_of Tryd.func15 (by kernel_rfl) rfl,fun W i j hW hi hj=>by
         refine cellJ la lb RA CA RB CB RT PS g cq P w.heap.size (w.heap.size+1) (w.heap.size+1+1) i j _ _ W (by rw [HNP.out];exact VP.later hW) (V0.later hW) (V2.later hW) (V1.later hW) (fun i q hq=>?_) (HVA.out.later (xt X hW)) (HVB.out.later (xt X hW)) HLA.out HLB.out HLA2.out HLB2.out (by rw [HNP.out];exact hi) (by rw [HCV.out];exact hj) HPR.out t3 t4 (by omega) (by omega);exact ownP_at (ownP_later HOP.out hW) (by rw [← HNP.out]) hq⟩
        have CF:=filledI 15 _ NP C _ wl ASK.out (by omega) (by omega) hNC;clear hqn hPSJ HPS ASK;go_wp2_with fail;clear p0;refine CF.mono ?_;rintro q w5 ⟨sv,rfl,OS,e5⟩;obtain ⟨ps5,ns5,cs5,hsv⟩:=ownW_slice OS;subst hsv;have V35:=V3.later e5;obtain ⟨wy,hy,FX,⟨z0,z1,z2⟩,⟨fz0,fz1,fz2⟩,fd0,fd1,fd2⟩:=finG V35 (xt X e5) (by omega) NP C (.slice ps5 ns5 cs5);have FO:Hid (OwnW wy w.heap.size (.slice ps5 ns5 cs5) (gridN (joinC la lb CA CB RT PS) C (NP * C))):=by
         have o1:=ownW_far OS (p:=⟨w.heap.size+1+1+1,0,none⟩) (by show w.heap.size+1+1+1<_;omega) (.int .i64 NP);have o2:=ownW_far o1 (p:=⟨w.heap.size+1+1+1,1,none⟩) (by show w.heap.size+1+1+1<_;omega) (.int .i64 C);have o3:=ownW_far o2 (p:=⟨w.heap.size+1+1+1,2,none⟩) (by show w.heap.size+1+1+1<_;omega) (.slice ps5 ns5 cs5);show World.ownsRow _ _ _ _ _ _ _;rw [← hy];exact ownW_base o3 (by have:=X.size;omega)
        have HJ3:=HJ2.out;subst HJ3;clear V35 OS;go_wp2_with fail;exact bodyPost_ret (v:=grV NP C (.slice ps5 ns5 cs5)) (by simp [results,Tryd.results5,go_sem,fd0,fd1,fd2]) rfl ⟨_,rfl,FO.out,FX⟩
def rowJ (la lb:List VT) (ca cb rt i k:Nat):List VT:=((List.range ca).map fun j=>cel la (i * ca+j))++((List.range cb).filter fun j=>decide (j ≠ rt - 1)).map fun j=>cel lb (k * cb+j)
def tailJ (lb:List VT) (cb rt k j:Nat):List VT:=((List.range j).filter fun j=>decide (j ≠ rt - 1)).map fun j=>cel lb (k * cb+j)
theorem tailJ_succ (lb:List VT) (cb rt k j:Nat):tailJ lb cb rt k (j+1)=tailJ lb cb rt k j++(if j ≠ rt - 1 then [cel lb (k * cb+j)] else []):=by
 unfold tailJ;rw [List.range_succ,List.filter_append,List.map_append]
 congr 1
 by_cases h:j=rt - 1
 ·simp [h]
 ·simp [h]
theorem tailJ_length (lb:List VT) (cb rt k j:Nat):(tailJ lb cb rt k j).length≤j:=by
 unfold tailJ;rw [List.length_map];exact Nat.le_trans (List.length_filter_le _ _) (by simp)
theorem rowJ_tail (la lb:List VT) (ca cb rt i k:Nat):rowJ la lb ca cb rt i k=((List.range ca).map fun j=>cel la (i * ca+j))++tailJ lb cb rt k cb:=rfl
theorem skip_range (cb p:Nat) (h:p<cb):(List.range cb).filter (fun j=>decide (j ≠ p))=(List.range (cb - 1)).map fun o=>if o<p then o else o+1:=by
 obtain ⟨q,rfl⟩:∃ q,cb=p+1+q:=⟨cb - (p+1),by omega⟩;rw [show p+1+q - 1=p+q by omega,List.range_add,List.range_add (n:=p) (m:=q),List.range_succ,List.filter_append,List.filter_append,List.map_append];have e1:(List.range p).filter (fun j=>decide (j ≠ p))=List.range p:=List.filter_eq_self.2 fun j hj=>by
  have:=List.mem_range.1 hj;simp;omega
 have e2:([p]:List Nat).filter (fun j=>decide (j ≠ p))=[]:=by simp
 have e3:((List.range q).map fun x=>p+1+x).filter (fun j=>decide (j ≠ p))=(List.range q).map fun x=>p+1+x:=List.filter_eq_self.2 fun j hj=>by
  obtain ⟨x,_,rfl⟩:=List.mem_map.1 hj;simp;omega
 rw [e1,e2,e3,List.append_nil,List.map_map]
 congr 1
 ·rw [List.map_congr_left (g:=fun o=>o)]
  ·simp
  ·intro o ho;have:=List.mem_range.1 ho;rw [if_pos this]
 ·refine List.map_congr_left fun o _=>?_;simp only [Function.comp];rw [if_neg (by omega)];omega
theorem rowJ_cells (la lb:List VT) (ca cb rt:Nat) (ps:List (Nat × Nat)) (r i k:Nat) (hq:ps[r]?=some (i,k)) (h1:1≤rt) (h2:rt≤cb):rowJ la lb ca cb rt i k=(List.range (ca+cb - 1)).map fun j=>joinC la lb ca cb rt ps r j:=by
 have hqd:ps.getD r (0,0)=(i,k):=by rw [List.getD_eq_getElem?_getD,hq];rfl
 unfold rowJ;rw [skip_range cb (rt - 1) (by omega),List.map_map,show ca+cb - 1=ca+(cb - 1) by omega,List.range_add,List.map_append]
 congr 1
 ·refine List.map_congr_left fun j hj=>?_;have:=List.mem_range.1 hj;unfold joinC;rw [hqd];simp only;rw [if_pos this]
 ·rw [List.map_map];refine List.map_congr_left fun o ho=>?_;have:=List.mem_range.1 ho;unfold joinC;rw [hqd];simp only [Function.comp];rw [if_neg (show ¬ ca+o<ca by omega),show ca+o - ca=o by omega];by_cases h:o<rt - 1
  ·rw [if_pos h,if_pos h]
  ·rw [if_neg h,if_neg h]
theorem gridN_rows (c:Nat→Nat→VT) (C n:Nat) (hC:0<C):gridN c C (n * C)=(List.range n).flatMap fun r=>(List.range C).map fun j=>c r j:=by
 induction n with
 | zero=>simp [gridN]
 | succ n ih =>
  rw [List.range_succ,List.flatMap_append,← ih];unfold gridN;rw [show (n+1) * C=n * C+C by rw [Nat.add_mul,Nat.one_mul],List.range_add,List.map_append]
  congr 1
  simp only [List.flatMap_cons,List.flatMap_nil,List.append_nil,List.map_map];refine List.map_congr_left fun j hj=>?_;have:=List.mem_range.1 hj;simp only [Function.comp];rw [show (n * C+j) / C=n by rw [Nat.mul_comm,Nat.mul_add_div hC,Nat.div_eq_of_lt this,Nat.add_zero],show (n * C+j) % C=j by rw [Nat.mul_comm,Nat.mul_add_mod,Nat.mod_eq_of_lt this]]
theorem range_flat {α β:Type} (ps:List α) (f:Nat→List β) (g:α→List β) (h:∀ r q,ps[r]?=some q→f r=g q):(List.range ps.length).flatMap f=ps.flatMap g:=by
 induction ps generalizing f with
 | nil=>rfl
 | cons a ps ih =>
  rw [List.length_cons,List.range_succ_eq_map,List.flatMap_cons,List.flatMap_cons,h 0 a rfl]
  congr 1
  rw [List.flatMap_map];exact ih (fun r=>f (r+1)) fun r q hq=>h (r+1) q (by simpa using hq)
theorem grid_rows (la lb:List VT) (ca cb rt:Nat) (ps:List (Nat × Nat)) (h1:1≤rt) (h2:rt≤cb) (hC:0<ca+cb - 1):gridN (joinC la lb ca cb rt ps) (ca+cb - 1) (ps.length * (ca+cb - 1))=ps.flatMap fun q=>rowJ la lb ca cb rt q.1 q.2:=by
 rw [gridN_rows _ _ _ hC];refine range_flat ps _ _ fun r q hq=>?_;obtain ⟨i,k⟩:=q;exact (rowJ_cells la lb ca cb rt ps r i k hq h1 h2).symm
def goesB (la lb:List VT) (ca cb lt rt i k:Nat):Bool:=decide ((cel la (i * ca+(lt - 1))).k ≠ 0) && likeB (cel la (i * ca+(lt - 1))) (cel lb (k * cb+(rt - 1)))
def prsI (la lb:List VT) (ca cb lt rt i k:Nat):List (Nat × Nat):=((List.range k).filter (goesB la lb ca cb lt rt i)).map fun k=>(i,k)
def prsS (la lb:List VT) (ca cb rb lt rt i:Nat):List (Nat × Nat):=(List.range i).flatMap fun i=>prsI la lb ca cb lt rt i rb
theorem prsI_succ (la lb:List VT) (ca cb lt rt i k:Nat):prsI la lb ca cb lt rt i (k+1)=prsI la lb ca cb lt rt i k++(if goesB la lb ca cb lt rt i k=true then [(i,k)] else []):=by
 unfold prsI;rw [List.range_succ,List.filter_append,List.map_append]
 congr 1
 rw [List.filter_cons];cases goesB la lb ca cb lt rt i k <;> simp
theorem prsS_succ (la lb:List VT) (ca cb rb lt rt i:Nat):prsS la lb ca cb rb lt rt (i+1)=prsS la lb ca cb rb lt rt i++prsI la lb ca cb lt rt i rb:=by
 unfold prsS;rw [List.range_succ,List.flatMap_append];simp
theorem prsI_length (la lb:List VT) (ca cb lt rt i k:Nat):(prsI la lb ca cb lt rt i k).length≤k:=by
 unfold prsI;rw [List.length_map];exact Nat.le_trans (List.length_filter_le _ _) (by simp)
theorem prsS_length (la lb:List VT) (ca cb rb lt rt i:Nat):(prsS la lb ca cb rb lt rt i).length≤i * rb:=by
 induction i with
 | zero=>simp [prsS]
 | succ i ih =>
  rw [prsS_succ,List.length_append,Nat.add_mul,Nat.one_mul];have:=prsI_length la lb ca cb lt rt i rb;omega
theorem cel_col {l:List VT} {c j n i:Nat} (hi:i<n):cel (colL l c j n) i=cel l (i * c+j):=by
 unfold cel;rw [List.getD_eq_getElem?_getD,colL_at l c j n hi];rfl
theorem goes_same {a b:VT} (ga:a.good=true) (gb:b.good=true):(decide (b.k ≠ 0) && sameQ (nrm b) (nrm a))=(decide (a.k ≠ 0) && likeB a b):=by
 have h:=like_nrm ga gb;cases hl:likeB a b with
 | true =>
  have e:=h.1 hl;have hk:(nrm a).k=(nrm b).k:=by rw [e]
  have hk:a.k=b.k:=hk;rw [sameQ_iff.2 e.symm,hk]
 | false =>
  have:sameQ (nrm b) (nrm a)=false:=by
   cases hs:sameQ (nrm b) (nrm a) with
   | false=>rfl
   | true =>
    have:=h.2 (sameQ_iff.1 hs).symm;rw [hl] at this;cases this
  rw [this,Bool.and_false,Bool.and_false]
theorem flat_congr {α β:Type} {f g:α→List β} (l:List α) (h:∀ x ∈ l,f x=g x):l.flatMap f=l.flatMap g:=by
 induction l with
 | nil=>rfl
 | cons a l ih=>rw [List.flatMap_cons,List.flatMap_cons,h a (by simp),ih fun x hx=>h x (by simp [hx])]
theorem prs_both {la lb:List VT} {ra ca rb cb lt rt:Nat} (h1:la.length=ra * ca) (h2:lb.length=rb * cb) (ga:∀ e ∈ la,e.good=true) (gb:∀ e ∈ lb,e.good=true) (t1:1≤lt) (t2:lt≤ca) (t3:1≤rt) (t4:rt≤cb) :
  prsJ la ra ca lb rb cb lt rt=prsS la lb ca cb rb lt rt ra:=by
 unfold prsJ prsN prsS;refine flat_congr _ fun i hi=>?_;have hi:=List.mem_range.1 hi;unfold prsI grpN
 congr 1
 refine List.filter_congr fun k hk=>?_;have hk:=List.mem_range.1 hk;rw [cel_col hi,cel_col hk];exact goes_same (ga _ (cel_mem (by rw [h1];exact place_lt hi (by omega)))) (gb _ (cel_mem (by rw [h2];exact place_lt hk (by omega))))
end Go.Proofs.YtnphbpmdohidcaaDoor

