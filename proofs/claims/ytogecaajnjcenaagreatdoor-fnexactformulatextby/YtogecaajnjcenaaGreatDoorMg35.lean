/-
  Several texts in one: TxS, LibD, TxI, TxJ.
-/
import Derived.Test.YtogecaajnjcenaaGreatDoorMg9
import Derived.Test.YtogecaajnjcenaaGreatDoorMg34
import Derived.Deep.RegionHeld3
import Derived.Test.YtogecaajnjcenaaGreatDoorMg5
namespace Go.Proofs.YtogecaajnjcenaaGreatDoor
open Go.RowKit
def sizeT (D:List UInt8) (x:Int):List UInt8:=
 if 0≤x∧(D.length:Int) - 1+x<15 then D++List.replicate x.toNat 48
 else if x<0∧0≤(D.length:Int) - 1+x then D.take ((D.length:Int) - 1+x+1).toNat++46 :: D.drop ((D.length:Int) - 1+x+1).toNat
 else if x<0 ∧ -5≤(D.length:Int) - 1+x then 48 :: 46 :: (List.replicate (-((D.length:Int) - 1+x) - 1).toNat 48++D)
 else D.take 1++(if 1<D.length then 46 :: D.drop 1 else []) ++
  (if (D.length:Int) - 1+x<0 then 69 :: 45 :: Lib.decDigits (-((D.length:Int) - 1+x)).toNat else 69 :: 43 :: Lib.decDigits ((D.length:Int) - 1+x).toNat)
def textT (n:Bool) (d x:Int):List UInt8:=
 if goodB n d x then (if d=0 then [48] else (if n then [45] else [])++sizeT (Lib.decDigits d.toNat) x) else []
theorem good_exp {n:Bool} {d e:Int} (h:goodB n d e=true) : -300≤e∧e≤300:=by
 unfold goodB at h
 split at h
 ·simp at h;omega
 ·simp at h;omega
theorem dec_len_le:∀ (k u:Nat),u<10 ^ (k+1)→1≤(Lib.decDigits u).length∧(Lib.decDigits u).length≤k+1
 | 0,u,h=>by rw [Lib.decDigits,dif_pos (by simpa using h)];simp
 | k+1,u,h=>by
  rw [Lib.decDigits]
  split
  ·simp
  ·have:=dec_len_le k (u / 10) (by rw [Nat.pow_succ] at h;omega);simp;omega
theorem dec_len {d:Int} (h0:0<d) (h1:d<1000000000000000):1≤(Lib.decDigits d.toNat).length∧(Lib.decDigits d.toNat).length≤15:=
 dec_len_le 14 d.toNat (by
  have:(10:Nat) ^ (14+1)=1000000000000000:=by decide
  omega)
theorem nought_int (n:Int) (w:World) (h0:0≤n) (hn:n≤1000000) :
  Calls Tryz.prog 52 #[.int .i64 n] w fun e w'=>e=.returned (.string ⟨(List.replicate n.toNat (48:UInt8)).toArray⟩)∧Ext w w':=by
 obtain ⟨m,rfl⟩:=Int.eq_ofNat_of_zero_le h0;exact nought_any m w (by omega)
theorem num_dec (n:Int) (w:World) (n0:0≤n) (n1:n<1000000000000000) :
  Calls Tryz.prog 51 #[.int .i64 n] w fun e w'=>e=.returned (.string ⟨(Lib.decDigits n.toNat).toArray⟩)∧Ext w w':=by
 refine (num_any n w n0 n1).mono ?_;rintro e w1 ⟨l,rfl,ht,e1⟩;rw [ht.dec n0];exact ⟨rfl,e1⟩
set_option maxRecDepth 8000 in
set_option maxHeartbeats 1000000 in
theorem textS (n:Bool) (d x:Int) (w:World) :
  Calls Tryz.prog 34 #[.agg #[.bool n,.int .i64 d,.int .i64 x]] w fun e w'=>∃ s,e=.returned (.string s)∧s.data.toList=textT n d x∧Ext w w':=by
 go_enter Tryz.func34,Tryz.ntmps34;go_wp2_with fail;refine (goodS n d x _).mono ?_;rintro r w1 ⟨rfl,e1⟩;have B:=(Box3.made w (.bool n) (.int .i64 d) (.int .i64 x) 40).later e1;have X1:=xt (x1 _ _) e1;clear e1;have B':=B;obtain ⟨⟨p0,p1,p2⟩,_⟩:=B';cases hg:goodB n d x
 ·have HT:Hid (textT n d x=[]):=by simp [textT,hg,Hid]
  clear hg;go_wp2_with fail;go_ret;exact ⟨_,rfl,by rw [HT.out],X1⟩
 ·by_cases hd:d=0
  ·subst hd;have HT:Hid (textT n 0 x=[48]):=by simp [textT,hg,Hid]
   clear hg;go_wp2_with fail;go_ret;exact ⟨_,rfl,by rw [HT.out],X1⟩
  ·obtain ⟨D,eD⟩:∃ D,Lib.decDigits d.toNat=D:=⟨_,rfl⟩;have HT:Hid (textT n d x=(if n then [45] else [])++sizeT D x):=by simp [textT,hg,hd,Hid,eD]
   obtain ⟨g0,g1,_⟩:=good_range hg;have gx : -300≤x∧x≤300:=good_exp hg;obtain ⟨gx0,gx1⟩:=gx;have hl:=dec_len (d:=d) (by omega) g1;rw [eD] at hl;obtain ⟨l0,l1⟩:=hl;have ND:Hid (∀ w2:World,Calls Tryz.prog 51 #[.int .i64 d] w2 fun e w'=>e=.returned (.string ⟨D.toArray⟩)∧Ext w2 w'):=fun w2=>by
    have:=num_dec d w2 g0 g1
    rwa [eD] at this
   have hd':(d == 0)=false:=by rw [beq_eq_false_iff_ne];exact hd
   clear hg hd g0 g1 eD;go_wp2_with fail;refine (ND.out _).mono ?_;rintro r w2 ⟨rfl,e2⟩;obtain ⟨s,hs⟩:∃ s:ByteArray,s=⟨D.toArray⟩:=⟨_,rfl⟩;have hsz:s.size=D.length:=by rw [hs];simp [ByteArray.size]
   have HS:Hid (s.data.toList=D):=by rw [hs];simp [Hid]
   rw [← hs];have B2:=B.later e2;have X2:=xt X1 e2;obtain ⟨L,hL⟩:∃ L,D.length=L:=⟨_,rfl⟩;rw [hL] at hsz l0 l1;have HL:Hid (D.length=L):=hL;clear hs e2 B X1 ND p0 p1 p2 hd' hL;have B3:=B2;obtain ⟨⟨p0,p1,p2⟩,_⟩:=B3;have l0':(1:Int)≤(L:Int):=by omega
   have l1':(L:Int)≤15:=by omega
   by_cases ca:0≤x∧(L:Int) - 1+x<15
   ·obtain ⟨c1,c2⟩:=ca;have HZ:Hid (sizeT D x=D++List.replicate x.toNat 48):=(by unfold sizeT;rw [HL.out,if_pos ⟨c1,c2⟩];rfl);have NO:Hid (∀ w2:World,Calls Tryz.prog 52 #[.int .i64 x] w2 fun e w'=>e=.returned (.string ⟨(List.replicate x.toNat (48:UInt8)).toArray⟩)∧Ext w2 w'):=fun w2=>nought_int x w2 c1 (by omega);go_wp2_with fail;refine (NO.out _).mono ?_;rintro r w3 ⟨rfl,e3⟩;have X3:=xt X2 e3;obtain ⟨t,ht⟩:∃ t:ByteArray,t=⟨(List.replicate x.toNat (48:UInt8)).toArray⟩:=⟨_,rfl⟩;have htz:t.size=x.toNat:=(by rw [ht];simp [ByteArray.size]);have HTT:Hid (t.data.toList=List.replicate x.toNat 48):=(by rw [ht];simp [Hid]);rw [← ht];obtain ⟨⟨q0,q1,q2⟩,_⟩:=B2.later e3;clear ht NO p0 p1 p2 B2 e3 X2;cases n
    ·go_wp2_with fail;go_ret;exact ⟨_,rfl,by rw [HT.out,HZ.out];simp [HS.out,HTT.out],X3⟩
    ·go_wp2_with fail;go_ret;exact ⟨_,rfl,by rw [HT.out,HZ.out];simp [HS.out,HTT.out],X3⟩
   ·have HA:Hid (¬ (0≤x∧(L:Int) - 1+x<15)):=ca;by_cases cb:x<0∧0≤(L:Int) - 1+x
    ·obtain ⟨c1,c2⟩:=cb;obtain ⟨k,hk⟩:∃ k:Nat,(L:Int) - 1+x+1=(k:Int):=⟨((L:Int) - 1+x+1).toNat,by omega⟩;have HZ:Hid (sizeT D x=D.take k++46 :: D.drop k):=(by unfold sizeT;rw [HL.out,if_neg (by omega),if_pos ⟨c1,c2⟩,hk];rfl);have k1:k≤L:=(by omega);have hk':(L:Int) - 1+x=(k:Int) - 1:=(by omega);clear ca HA;have hw:IntKind.i64.wrap ((k:Int) - 1+1)=(k:Int):=(by rw [IntKind.wrap_i64];omega);have hk0:(0:Int)≤(k:Int):=(by omega);have hks:(k:Int)≤(L:Int):=(by omega);have hwk:IntKind.i64.wrap (k:Int)=(k:Int):=(by rw [IntKind.wrap_i64];omega);have hwk':wrap64 (k:Int)=(k:Int):=(by unfold wrap64;omega);have A1:∀ w':World,(Op.stringOp .add (s.extract 0 k) ⟨#[46]⟩).run Tryz.prog w'=.ok (.string (s.extract 0 k++⟨#[46]⟩)) w':=fun w'=>run_string_add_sum w' _ _ (by rw [ByteArray.size_extract,hsz];show min k L - 0+1≤_;omega);have A2:∀ w':World,(Op.stringOp .add (s.extract 0 k++⟨#[46]⟩) (s.extract k L)).run Tryz.prog w'=.ok (.string (s.extract 0 k++⟨#[46]⟩++s.extract k L)) w':=fun w'=>run_string_add_sum w' _ _ (by rw [ByteArray.size_append,ByteArray.size_extract,ByteArray.size_extract,hsz];show min k L - 0+1+(min L L - k)≤_;omega);go_wp2_with fail;go_region_held3 (fun _=>True) (trivial) (fail);have HE:Hid (∀ p:List UInt8,p++(s.extract 0 k++(⟨#[46]⟩:ByteArray)++s.extract k L).data.toList=p++sizeT D x):=fun p=>by
      rw [HZ.out];have e5:List.take (L - k) (List.drop k D)=List.drop k D:=List.take_of_length_le (by simp [HL.out]);simp [HS.out,e5]
     have esz:(s.extract 0 k++(⟨#[46]⟩:ByteArray)++s.extract k L).size≤100:=by
      rw [ByteArray.size_append,ByteArray.size_append,ByteArray.size_extract,ByteArray.size_extract,hsz];show min k L - 0+1+(min L L - k)≤_;omega
     obtain ⟨o,ho⟩:∃ o,s.extract 0 k++(⟨#[46]⟩:ByteArray)++s.extract k L=o:=⟨_,rfl⟩;rw [ho] at HE esz;rw [ho];clear ho A1 A2;cases n
     ·go_wp2_with fail;go_ret;exact ⟨_,rfl,by rw [HT.out];simpa using HE.out [],xd X2⟩
     ·go_wp2_with fail;go_ret;exact ⟨_,rfl,by rw [HT.out];simpa using HE.out [45],xd X2⟩
    ·by_cases cc:x<0 ∧ -5≤(L:Int) - 1+x
     ·obtain ⟨c1,c2⟩:=cc;have c3:(L:Int) - 1+x<0:=(by omega);have HZ:Hid (sizeT D x=48 :: 46 :: (List.replicate (-((L:Int) - 1+x) - 1).toNat 48++D)):=(by unfold sizeT;rw [HL.out,if_neg (by omega),if_neg (by omega),if_pos ⟨c1,c2⟩];rfl);have NO:Hid (∀ w2:World,Calls Tryz.prog 52 #[.int .i64 (-((L:Int) - 1+x) - 1)] w2 fun e w'=>e=.returned (.string ⟨(List.replicate (-((L:Int) - 1+x) - 1).toNat (48:UInt8)).toArray⟩)∧Ext w2 w'):=fun w2=>nought_int _ w2 (by omega) (by omega);clear ca HA cb;go_wp2_with fail;refine (NO.out _).mono ?_;rintro r w3 ⟨rfl,e3⟩;have X3:=xt X2 e3;obtain ⟨t,ht⟩:∃ t:ByteArray,t=⟨(List.replicate (-((L:Int) - 1+x) - 1).toNat (48:UInt8)).toArray⟩:=⟨_,rfl⟩;have htz:t.size≤1000:=(by rw [ht];simp [ByteArray.size];omega);have HTT:Hid (t.data.toList=List.replicate (-((L:Int) - 1+x) - 1).toNat 48):=(by rw [ht];simp [Hid]);rw [← ht];obtain ⟨⟨q0,q1,q2⟩,_⟩:=B2.later e3;clear ht NO p0 p1 p2 B2 e3 X2;cases n
      ·go_wp2_with fail;go_ret;exact ⟨_,rfl,by rw [HT.out,HZ.out];simp [HS.out,HTT.out],X3⟩
      ·go_wp2_with fail;go_ret;exact ⟨_,rfl,by rw [HT.out,HZ.out];simp [HS.out,HTT.out],X3⟩
     ·have HZ:Hid (sizeT D x=D.take 1++(if 1<L then 46 :: D.drop 1 else [])++(if (L:Int) - 1+x<0 then 69 :: 45 :: Lib.decDigits (-((L:Int) - 1+x)).toNat else 69 :: 43 :: Lib.decDigits ((L:Int) - 1+x).toNat)):=by
       unfold sizeT;rw [HL.out,if_neg (by omega),if_neg (by omega),if_neg (by omega)];rfl
      have hs1:(1:Int)≤(s.size:Int):=(by omega);by_cases hx:x<0
      ·have ct:(L:Int) - 1+x < -5:=(by omega);have ct2:¬ (-5≤(L:Int) - 1+x):=(by omega);have ct3:¬ (0≤(L:Int) - 1+x):=(by omega);have NU:Hid (∀ w2:World,Calls Tryz.prog 51 #[.int .i64 (-((L:Int) - 1+x))] w2 fun e w'=>e=.returned (.string ⟨(Lib.decDigits (-((L:Int) - 1+x)).toNat).toArray⟩)∧Ext w2 w'):=fun w2=>num_dec _ w2 (by omega) (by omega);clear ca HA cb cc;by_cases hL1:1<L
       ·have hL1':(1:Int)<(L:Int):=(by omega);go_wp2_with fail;refine (NU.out _).mono ?_;rintro r w3 ⟨rfl,e3⟩;have X3:=xt X2 e3;obtain ⟨t,ht⟩:∃ t:ByteArray,t=⟨(Lib.decDigits (-((L:Int) - 1+x)).toNat).toArray⟩:=⟨_,rfl⟩;have htz:t.size≤15:=(by rw [ht];simp only [ByteArray.size,List.size_toArray];exact (dec_len (by omega) (by omega)).2);have HTT:Hid (t.data.toList=Lib.decDigits (-((L:Int) - 1+x)).toNat):=(by rw [ht];simp [Hid]);rw [← ht];obtain ⟨⟨q0,q1,q2⟩,_⟩:=B2.later e3;have HE:Hid (∀ p:List UInt8,p++((s.extract 0 1++((⟨#[46]⟩:ByteArray)++s.extract 1 L)).data.toList++((⟨#[69,45]⟩:ByteArray)++t).data.toList)=p++sizeT D x):=fun p=>by
         rw [HZ.out,if_pos hL1,if_pos (by omega)];have e5:List.take (L - 1) D.tail=D.tail:=List.take_of_length_le (by simp [HL.out]);simp [HS.out,HTT.out,e5]
        have esz:(s.extract 0 1++((⟨#[46]⟩:ByteArray)++s.extract 1 L)).size≤100:=by
         rw [ByteArray.size_append,ByteArray.size_append,ByteArray.size_extract,ByteArray.size_extract,hsz];show min 1 L - 0+(1+(min L L - 1))≤_;omega
        obtain ⟨o,ho⟩:∃ o,s.extract 0 1++((⟨#[46]⟩:ByteArray)++s.extract 1 L)=o:=⟨_,rfl⟩;rw [ho] at HE esz;rw [ho];clear ht NU p0 p1 p2 B2 e3 X2 ho;cases n
        ·go_wp2_with fail;go_ret;exact ⟨_,rfl,by rw [HT.out];simpa using HE.out [],X3⟩
        ·go_wp2_with fail;go_ret;exact ⟨_,rfl,by rw [HT.out];simpa using HE.out [45],X3⟩
       ·have hL1':¬ (1:Int)<(L:Int):=(by omega);go_wp2_with fail;refine (NU.out _).mono ?_;rintro r w3 ⟨rfl,e3⟩;have X3:=xt X2 e3;obtain ⟨t,ht⟩:∃ t:ByteArray,t=⟨(Lib.decDigits (-((L:Int) - 1+x)).toNat).toArray⟩:=⟨_,rfl⟩;have htz:t.size≤15:=(by rw [ht];simp only [ByteArray.size,List.size_toArray];exact (dec_len (by omega) (by omega)).2);have HTT:Hid (t.data.toList=Lib.decDigits (-((L:Int) - 1+x)).toNat):=(by rw [ht];simp [Hid]);rw [← ht];obtain ⟨⟨q0,q1,q2⟩,_⟩:=B2.later e3;have HE:Hid (∀ p:List UInt8,p++((s.extract 0 1).data.toList++((⟨#[69,45]⟩:ByteArray)++t).data.toList)=p++sizeT D x):=fun p=>by
         rw [HZ.out,if_neg hL1,if_pos (by omega)];simp [HS.out,HTT.out]
        have esz:(s.extract 0 1).size≤100:=by
         rw [ByteArray.size_extract,hsz];omega
        obtain ⟨o,ho⟩:∃ o,s.extract 0 1=o:=⟨_,rfl⟩;rw [ho] at HE esz;rw [ho];clear ht NU p0 p1 p2 B2 e3 X2 ho;cases n
        ·go_wp2_with fail;go_ret;exact ⟨_,rfl,by rw [HT.out];simpa using HE.out [],X3⟩
        ·go_wp2_with fail;go_ret;exact ⟨_,rfl,by rw [HT.out];simpa using HE.out [45],X3⟩
      ·have ct:15≤(L:Int) - 1+x:=(by omega);have ct2:¬ ((L:Int) - 1+x<15):=(by omega);have ct3:¬ ((L:Int) - 1+x<0):=(by omega);have NU:Hid (∀ w2:World,Calls Tryz.prog 51 #[.int .i64 ((L:Int) - 1+x)] w2 fun e w'=>e=.returned (.string ⟨(Lib.decDigits ((L:Int) - 1+x).toNat).toArray⟩)∧Ext w2 w'):=fun w2=>num_dec _ w2 (by omega) (by omega);clear ca HA cb cc;by_cases hL1:1<L
       ·have hL1':(1:Int)<(L:Int):=(by omega);go_wp2_with fail;refine (NU.out _).mono ?_;rintro r w3 ⟨rfl,e3⟩;have X3:=xt X2 e3;obtain ⟨t,ht⟩:∃ t:ByteArray,t=⟨(Lib.decDigits ((L:Int) - 1+x).toNat).toArray⟩:=⟨_,rfl⟩;have htz:t.size≤15:=(by rw [ht];simp only [ByteArray.size,List.size_toArray];exact (dec_len (by omega) (by omega)).2);have HTT:Hid (t.data.toList=Lib.decDigits ((L:Int) - 1+x).toNat):=(by rw [ht];simp [Hid]);rw [← ht];obtain ⟨⟨q0,q1,q2⟩,_⟩:=B2.later e3;have HE:Hid (∀ p:List UInt8,p++((s.extract 0 1++((⟨#[46]⟩:ByteArray)++s.extract 1 L)).data.toList++((⟨#[69,43]⟩:ByteArray)++t).data.toList)=p++sizeT D x):=fun p=>by
         rw [HZ.out,if_pos hL1,if_neg (show ¬ ((L:Int) - 1+x<0) by omega)];have e5:List.take (L - 1) D.tail=D.tail:=List.take_of_length_le (by simp [HL.out]);simp [HS.out,HTT.out,e5]
        have esz:(s.extract 0 1++((⟨#[46]⟩:ByteArray)++s.extract 1 L)).size≤100:=by
         rw [ByteArray.size_append,ByteArray.size_append,ByteArray.size_extract,ByteArray.size_extract,hsz];show min 1 L - 0+(1+(min L L - 1))≤_;omega
        obtain ⟨o,ho⟩:∃ o,s.extract 0 1++((⟨#[46]⟩:ByteArray)++s.extract 1 L)=o:=⟨_,rfl⟩;rw [ho] at HE esz;rw [ho];clear ht NU p0 p1 p2 B2 e3 X2 ho;cases n
        ·go_wp2_with fail;go_ret;exact ⟨_,rfl,by rw [HT.out];simpa using HE.out [],X3⟩
        ·go_wp2_with fail;go_ret;exact ⟨_,rfl,by rw [HT.out];simpa using HE.out [45],X3⟩
       ·have hL1':¬ (1:Int)<(L:Int):=(by omega);go_wp2_with fail;refine (NU.out _).mono ?_;rintro r w3 ⟨rfl,e3⟩;have X3:=xt X2 e3;obtain ⟨t,ht⟩:∃ t:ByteArray,t=⟨(Lib.decDigits ((L:Int) - 1+x).toNat).toArray⟩:=⟨_,rfl⟩;have htz:t.size≤15:=(by rw [ht];simp only [ByteArray.size,List.size_toArray];exact (dec_len (by omega) (by omega)).2);have HTT:Hid (t.data.toList=Lib.decDigits ((L:Int) - 1+x).toNat):=(by rw [ht];simp [Hid]);rw [← ht];obtain ⟨⟨q0,q1,q2⟩,_⟩:=B2.later e3;have HE:Hid (∀ p:List UInt8,p++((s.extract 0 1).data.toList++((⟨#[69,43]⟩:ByteArray)++t).data.toList)=p++sizeT D x):=fun p=>by
         rw [HZ.out,if_neg hL1,if_neg (show ¬ ((L:Int) - 1+x<0) by omega)];simp [HS.out,HTT.out]
        have esz:(s.extract 0 1).size≤100:=by
         rw [ByteArray.size_extract,hsz];omega
        obtain ⟨o,ho⟩:∃ o,s.extract 0 1=o:=⟨_,rfl⟩;rw [ho] at HE esz;rw [ho];clear ht NU p0 p1 p2 B2 e3 X2 ho;cases n
        ·go_wp2_with fail;go_ret;exact ⟨_,rfl,by rw [HT.out];simpa using HE.out [],X3⟩
        ·go_wp2_with fail;go_ret;exact ⟨_,rfl,by rw [HT.out];simpa using HE.out [45],X3⟩
def RepC:Prop:=∀ (c:Int) (w:World),0≤c→c≤1000→Calls Tryz.prog 115 #[.string ⟨#[48]⟩,.int .i64 c] w fun e w'=>∃ s,e=.returned (.string s)∧s.data.toList=List.replicate c.toNat 48∧Ext w w'
theorem size_of {s:ByteArray} {l:List UInt8} (h:s.data.toList=l):s.size=l.length:=by
 rw [← h,Array.length_toList];rfl
set_option maxRecDepth 8000 in
set_option maxHeartbeats 1000000 in
theorem pointed_any (RP:RepC) (s:ByteArray) (D:List UInt8) (m:Int) (w:World) (hs:s.data.toList=D) (l1:D.length≤15) (m0 : -300≤m) (m1:m≤D.length) :
  Calls Tryz.prog 116 #[.string s,.int .i64 m] w fun e w'=>∃ t,e=.returned (.string t)∧t.data.toList=(if m≤0 then 48 :: 46 :: (List.replicate (-m).toNat 48++D) else D.take m.toNat++46 :: D.drop m.toNat)∧Ext w w':=by
 have hsz:=size_of hs;obtain ⟨L,hL⟩:∃ L,D.length=L:=⟨_,rfl⟩;have HL:Hid (D.length=L):=hL;have HS:Hid (s.data.toList=D):=hs;rw [hL] at hsz l1 m1;clear hL hs;by_cases hm:m≤0
 ·rw [if_pos hm];have R:Hid (∀ w:World,Calls Tryz.prog 115 #[.string ⟨#[48]⟩,.int .i64 (-m)] w fun e w'=>∃ s,e=.returned (.string s)∧s.data.toList=List.replicate (-m).toNat 48∧Ext w w'):=fun w=>RP (-m) w (by omega) (by omega);go_enter Tryz.func116,Tryz.ntmps116;go_wp2_with fail;refine (R.out _).mono ?_;rintro e w1 ⟨t,rfl,ht,e1⟩;have htz:=size_of ht;rw [List.length_replicate] at htz;have HT:Hid (t.data.toList=List.replicate (-m).toNat 48):=ht;clear ht R;go_wp2_with fail;go_ret;exact ⟨_,rfl,by simp [HS.out,HT.out],e1⟩
 ·rw [if_neg hm];obtain ⟨k,rfl⟩:=Int.eq_ofNat_of_zero_le (show 0≤m by omega);have hk0:(0:Int)≤(k:Int):=by omega
  have hks:(k:Int)≤(L:Int):=by omega
  have hkn:k≤L:=by omega
  have A1:∀ w':World,(Op.stringOp .add (s.extract 0 k) ⟨#[46]⟩).run Tryz.prog w'=.ok (.string (s.extract 0 k++⟨#[46]⟩)) w':=fun w'=>run_string_add_sum w' _ _ (by rw [ByteArray.size_extract,hsz];show min k L - 0+1≤_;omega);have A2:∀ w':World,(Op.stringOp .add (s.extract 0 k++⟨#[46]⟩) (s.extract k L)).run Tryz.prog w'=.ok (.string (s.extract 0 k++⟨#[46]⟩++s.extract k L)) w':=fun w'=>run_string_add_sum w' _ _ (by rw [ByteArray.size_append,ByteArray.size_extract,ByteArray.size_extract,hsz];show min k L - 0+1+(min L L - k)≤_;omega);have HE:Hid ((s.extract 0 k++(⟨#[46]⟩:ByteArray)++s.extract k L).data.toList=D.take (k:Int).toNat++46 :: D.drop (k:Int).toNat):=by
   have e5:List.take (L - k) (List.drop k D)=List.drop k D:=List.take_of_length_le (by simp [HL.out]);simp [HS.out,e5,Hid]
  clear m0 m1;go_enter Tryz.func116,Tryz.ntmps116;go_wp2_with fail;go_region_held3 (fun _=>True) (trivial) (fail);go_wp2_with fail;go_ret;exact ⟨_,rfl,HE.out,xd (xr _)⟩
def powT (f:Int):List UInt8:=if f<0 then 69 :: 45 :: Lib.decDigits (-f).toNat else 69 :: 43 :: Lib.decDigits f.toNat
theorem itoa_len {n:Int} (h1 : -1000000000000000<n) (h2:n<1000000000000000):(Lib.itoa n).length≤16:=by
 unfold Lib.itoa;have e:(10:Nat) ^ (14+1)=1000000000000000:=by decide
 split
 ·have:=(dec_len_le 14 n.natAbs (by omega)).2;simp;omega
 ·have:=(dec_len_le 14 n.toNat (by omega)).2;omega
set_option maxRecDepth 8000 in
set_option maxHeartbeats 1000000 in
theorem powered_any (s:ByteArray) (D:List UInt8) (f:Int) (w0 w:World) (IT:ItoaC w0) (X0:Ext w0 w) (hs:s.data.toList=D) (l0:1≤D.length) (l1:D.length≤15) (f0 : -1000≤f) (f1:f≤1000) :
  Calls Tryz.prog 117 #[.string s,.int .i64 f] w fun e w'=>∃ t,e=.returned (.string t)∧t.data.toList=D.take 1++(if 1<D.length then 46 :: D.drop 1 else [])++powT f∧Ext w w':=by
 have hsz:=size_of hs;obtain ⟨L,hL⟩:∃ L,D.length=L:=⟨_,rfl⟩;have HL:Hid (D.length=L):=hL;have HS:Hid (s.data.toList=D):=hs;rw [hL] at hsz l1 l0;have I:Hid (Calls Tryz.prog 87 #[.int .i64 f] w fun e w'=>∃ s,e=.returned (.string s)∧s.data.toList=Lib.itoa f∧Ext w w'):=IT f w (by omega) (by omega) X0;have IL:Hid ((Lib.itoa f).length≤16):=itoa_len (by omega) (by omega);rw [hL];clear hL hs IT X0;have hs1:(1:Int)≤(L:Int):=by omega
 by_cases h1:1<L
 ·have h1':(1:Int)<(L:Int):=by omega
  have HE:Hid ((s.extract 0 1++((⟨#[46]⟩:ByteArray)++s.extract 1 L)).data.toList=D.take 1++46 :: D.drop 1):=by
   have e5:List.take (L - 1) D.tail=D.tail:=List.take_of_length_le (by simp [HL.out]);simp [HS.out,e5,Hid]
  have esz:(s.extract 0 1++((⟨#[46]⟩:ByteArray)++s.extract 1 L)).size≤100:=by
   rw [ByteArray.size_append,ByteArray.size_append,ByteArray.size_extract,ByteArray.size_extract,hsz];show min 1 L - 0+(1+(min L L - 1))≤_;omega
  rw [if_pos h1];by_cases hf:0≤f
  ·have HP:Hid (powT f=69 :: 43 :: Lib.itoa f):=by unfold powT Lib.itoa;rw [if_neg (by omega),if_neg (by omega)];rfl
   go_enter Tryz.func117,Tryz.ntmps117;go_wp2_with fail;refine (I.out).mono ?_;rintro e w1 ⟨t,rfl,ht,e1⟩;have htl:t.size≤16:=by rw [size_of ht];exact IL.out
   have HT:Hid (t.data.toList=Lib.itoa f):=ht;obtain ⟨o,ho⟩:∃ o,s.extract 0 1++((⟨#[46]⟩:ByteArray)++s.extract 1 L)=o:=⟨_,rfl⟩;rw [ho] at HE esz;rw [ho];clear ht I IL ho;go_wp2_with fail;go_ret;exact ⟨_,rfl,by rw [HP.out];simp [HE.out,HT.out],e1⟩
  ·have HP:Hid (powT f=69 :: Lib.itoa f):=by unfold powT Lib.itoa;rw [if_pos (by omega),if_pos (by omega)];show _=_;congr 4;omega
   go_enter Tryz.func117,Tryz.ntmps117;go_wp2_with fail;refine (I.out).mono ?_;rintro e w1 ⟨t,rfl,ht,e1⟩;have htl:t.size≤16:=by rw [size_of ht];exact IL.out
   have HT:Hid (t.data.toList=Lib.itoa f):=ht;obtain ⟨o,ho⟩:∃ o,s.extract 0 1++((⟨#[46]⟩:ByteArray)++s.extract 1 L)=o:=⟨_,rfl⟩;rw [ho] at HE esz;rw [ho];clear ht I IL ho;go_wp2_with fail;go_ret;exact ⟨_,rfl,by rw [HP.out];simp [HE.out,HT.out],e1⟩
 ·have h1':¬ (1:Int)<(L:Int):=by omega
  have HE:Hid ((s.extract 0 1).data.toList=D.take 1):=by simp [HS.out,Hid]
  have esz:(s.extract 0 1).size≤100:=by
   rw [ByteArray.size_extract,hsz];omega
  rw [if_neg h1];by_cases hf:0≤f
  ·have HP:Hid (powT f=69 :: 43 :: Lib.itoa f):=by unfold powT Lib.itoa;rw [if_neg (by omega),if_neg (by omega)];rfl
   go_enter Tryz.func117,Tryz.ntmps117;go_wp2_with fail;refine (I.out).mono ?_;rintro e w1 ⟨t,rfl,ht,e1⟩;have htl:t.size≤16:=by rw [size_of ht];exact IL.out
   have HT:Hid (t.data.toList=Lib.itoa f):=ht;obtain ⟨o,ho⟩:∃ o,s.extract 0 1=o:=⟨_,rfl⟩;rw [ho] at HE esz;rw [ho];clear ht I IL ho;go_wp2_with fail;go_ret;exact ⟨_,rfl,by rw [HP.out];simp [HE.out,HT.out],e1⟩
  ·have HP:Hid (powT f=69 :: Lib.itoa f):=by unfold powT Lib.itoa;rw [if_pos (by omega),if_pos (by omega)];show _=_;congr 4;omega
   go_enter Tryz.func117,Tryz.ntmps117;go_wp2_with fail;refine (I.out).mono ?_;rintro e w1 ⟨t,rfl,ht,e1⟩;have htl:t.size≤16:=by rw [size_of ht];exact IL.out
   have HT:Hid (t.data.toList=Lib.itoa f):=ht;obtain ⟨o,ho⟩:∃ o,s.extract 0 1=o:=⟨_,rfl⟩;rw [ho] at HE esz;rw [ho];clear ht I IL ho;go_wp2_with fail;go_ret;exact ⟨_,rfl,by rw [HP.out];simp [HE.out,HT.out],e1⟩
theorem sizeT_a {D:List UInt8} {x:Int} (h:0≤x∧(D.length:Int) - 1+x<15):sizeT D x=D++List.replicate x.toNat 48:=by unfold sizeT;rw [if_pos h]
theorem sizeT_b {D:List UInt8} {x:Int} (h0:x<0) (h : -5≤(D.length:Int) - 1+x) :
  sizeT D x=(if (D.length:Int)+x≤0 then 48 :: 46 :: (List.replicate (-((D.length:Int)+x)).toNat 48++D) else D.take ((D.length:Int)+x).toNat++46 :: D.drop ((D.length:Int)+x).toNat):=by
 unfold sizeT;rw [if_neg (by omega)];by_cases h1:(D.length:Int)+x≤0
 ·rw [if_neg (by omega),if_pos ⟨h0,h⟩,if_pos h1];have e : -((D.length:Int) - 1+x) - 1 = -((D.length:Int)+x):=by omega
  rw [e]
 ·rw [if_pos ⟨h0,by omega⟩,if_neg h1];have e:(D.length:Int) - 1+x+1=(D.length:Int)+x:=by omega
  rw [e]
theorem sizeT_c {D:List UInt8} {x:Int} (h1:¬ (0≤x∧(D.length:Int) - 1+x<15)) (h2:¬ (x<0 ∧ -5≤(D.length:Int) - 1+x)) :
  sizeT D x=D.take 1++(if 1<D.length then 46 :: D.drop 1 else [])++powT ((D.length:Int) - 1+x):=by
 unfold sizeT powT;rw [if_neg h1,if_neg (by omega),if_neg h2]
theorem itoa_len0 {d:Int} (h0:0≤d) (h1:d<1000000000000000):1≤(Lib.itoa d).length∧(Lib.itoa d).length≤15:=by
 unfold Lib.itoa;rw [if_neg (by omega)];exact dec_len_le 14 d.toNat (by
  have:(10:Nat) ^ (14+1)=1000000000000000:=by decide
  omega)
theorem sizeT_len {D:List UInt8} {x:Int} (l1:D.length≤15) (x0 : -300≤x) (x1:x≤300):(sizeT D x).length≤1000:=by
 have e:(10:Nat) ^ (14+1)=1000000000000000:=by decide
 have h1:=(dec_len_le 14 (-((D.length:Int) - 1+x)).toNat (by omega)).2;have h2:=(dec_len_le 14 ((D.length:Int) - 1+x).toNat (by omega)).2;unfold sizeT
 split
 ·simp;omega
 ·split
  ·simp;omega
  ·split
   ·simp;omega
   ·split <;> split <;> simp <;> omega
set_option maxRecDepth 8000 in
set_option maxHeartbeats 1000000 in
theorem sizeText_any (RP:RepC) (s:ByteArray) (D:List UInt8) (x:Int) (w0 w:World) (IT:ItoaC w0) (X0:Ext w0 w) (hs:s.data.toList=D) (l0:1≤D.length) (l1:D.length≤15) (x0 : -300≤x) (x1':x≤300) :
  Calls Tryz.prog 86 #[.string s,.int .i64 x] w fun e w'=>∃ t,e=.returned (.string t)∧t.data.toList=sizeT D x∧Ext w w':=by
 have hsz:=size_of hs;obtain ⟨L,hL⟩:∃ L,D.length=L:=⟨_,rfl⟩;by_cases ca:0≤x∧(L:Int) - 1+x<15
 ·have HZ:Hid (sizeT D x=D++List.replicate x.toNat 48):=sizeT_a (by rw [hL];exact ca);obtain ⟨c1,c2⟩:=ca;have R:Hid (∀ w:World,Calls Tryz.prog 115 #[.string ⟨#[48]⟩,.int .i64 x] w fun e w'=>∃ s,e=.returned (.string s)∧s.data.toList=List.replicate x.toNat 48∧Ext w w'):=fun w=>RP x w c1 (by omega);have HS:Hid (s.data.toList=D):=hs;rw [hL] at hsz l0 l1;clear RP IT X0 hs hL;go_enter Tryz.func86,Tryz.ntmps86;go_wp2_with fail;refine (R.out _).mono ?_;rintro e w1 ⟨t,rfl,ht,e1⟩;have htz:=size_of ht;rw [List.length_replicate] at htz;have HT:Hid (t.data.toList=List.replicate x.toNat 48):=ht;clear ht R;go_wp2_with fail;go_ret;exact ⟨_,rfl,by rw [HZ.out];simp [HS.out,HT.out],e1⟩
 ·by_cases cb:x<0 ∧ -5≤(L:Int) - 1+x
  ·have HZ:=sizeT_b (D:=D) cb.1 (by rw [hL];exact cb.2);have P:=pointed_any RP s D ((D.length:Int)+x) w hs l1 (by omega) (by omega);rw [← HZ,hL] at P;obtain ⟨c1,c2⟩:=cb;have HP:Hid (Calls Tryz.prog 116 #[.string s,.int .i64 ((L:Int)+x)] w fun e w'=>∃ t,e=.returned (.string t)∧t.data.toList=sizeT D x∧Ext w w'):=P;rw [hL] at hsz l0 l1;clear RP IT X0 hs hL HZ P ca;go_enter Tryz.func86,Tryz.ntmps86;go_wp2_with fail;refine (HP.out).mono ?_;rintro e w1 ⟨t,rfl,ht,e1⟩;have HT:Hid (t.data.toList=sizeT D x):=ht;clear ht HP;go_wp2_with fail;go_ret;exact ⟨_,rfl,HT.out,e1⟩
  ·have HZ:=sizeT_c (D:=D) (x:=x) (by rw [hL];exact ca) (by rw [hL];exact cb);have P:=powered_any s D ((D.length:Int) - 1+x) w0 w IT X0 hs l0 l1 (by omega) (by omega);rw [← HZ,hL] at P;have HP:Hid (Calls Tryz.prog 117 #[.string s,.int .i64 ((L:Int) - 1+x)] w fun e w'=>∃ t,e=.returned (.string t)∧t.data.toList=sizeT D x∧Ext w w'):=P;rw [hL] at hsz l0 l1;clear RP IT X0 hs hL HZ P;by_cases hx:x<0
   ·have ct:(L:Int) - 1+x < -5:=(by omega);clear ca cb;go_enter Tryz.func86,Tryz.ntmps86;go_wp2_with fail;refine (HP.out).mono ?_;rintro e w1 ⟨t,rfl,ht,e1⟩;have HT:Hid (t.data.toList=sizeT D x):=ht;clear ht HP;go_wp2_with fail;go_ret;exact ⟨_,rfl,HT.out,e1⟩
   ·have ct:15≤(L:Int) - 1+x:=(by omega);clear ca cb;go_enter Tryz.func86,Tryz.ntmps86;go_wp2_with fail;refine (HP.out).mono ?_;rintro e w1 ⟨t,rfl,ht,e1⟩;have HT:Hid (t.data.toList=sizeT D x):=ht;clear ht HP;go_wp2_with fail;go_ret;exact ⟨_,rfl,HT.out,e1⟩
theorem textT_good {n:Bool} {d x:Int} (h:goodB n d x=true):textT n d x=(if n then [45] else [])++sizeT (Lib.itoa d) x:=by
 obtain ⟨g0,g1,g2⟩:=good_range h;have e:Lib.itoa d=Lib.decDigits d.toNat:=by unfold Lib.itoa;rw [if_neg (by omega)]
 unfold textT;rw [if_pos h,e];by_cases hd:d=0
 ·obtain ⟨rfl,rfl⟩:=g2 hd;subst hd;rw [if_pos rfl];have e0:Lib.decDigits (0:Int).toNat=[48]:=by rw [Lib.decDigits,dif_pos (by decide)];rfl
  rw [e0];rfl
 ·rw [if_neg hd]
set_option maxRecDepth 8000 in
set_option maxHeartbeats 1000000 in
theorem textI (RP:RepC) (n:Bool) (d x:Int) (w:World) (IT:ItoaC w) (d1 : -9223372036854775808≤d) (d2:d≤9223372036854775807) (hT:Tens w) :
  Calls Tryz.prog 61 #[.agg #[.bool n,.int .i64 d,.int .i64 x]] w fun e w'=>∃ s,e=.returned (.string s)∧s.data.toList=textT n d x∧Ext w w':=by
 go_enter Tryz.func61,Tryz.ntmps61;go_wp2_with fail;refine (goodI n d x _ d1 d2 (hT.later (x1 _ _))).mono ?_;rintro r w1 ⟨rfl,e1⟩;have B:=(Box3.made w (.bool n) (.int .i64 d) (.int .i64 x) 40).later e1;have X1:=xt (x1 _ _) e1;clear e1 hT;have B':=B;obtain ⟨⟨p0,p1,p2⟩,_⟩:=B';cases hg:goodB n d x
 ·have HT:Hid (textT n d x=[]):=by simp [textT,hg,Hid]
  clear hg;go_wp2_with fail;go_ret;exact ⟨_,rfl,by rw [HT.out],X1⟩
 ·have HT:Hid (textT n d x=(if n then [45] else [])++sizeT (Lib.itoa d) x):=textT_good hg;obtain ⟨g0,g1,g2⟩:=good_range hg;obtain ⟨gx0,gx1⟩:=good_exp hg;have IC:Hid (∀ w2,Ext w1 w2→Calls Tryz.prog 87 #[.int .i64 d] w2 fun e w'=>∃ s,e=.returned (.string s)∧s.data.toList=Lib.itoa d∧Ext w2 w'):=fun w2 hx=>IT d w2 (by omega) (by omega) (xt X1 hx);have SC:Hid (∀ w2 s,Ext w1 w2→s.data.toList=Lib.itoa d→Calls Tryz.prog 86 #[.string s,.int .i64 x] w2 fun e w'=>∃ t,e=.returned (.string t)∧t.data.toList=sizeT (Lib.itoa d) x∧Ext w2 w'):=fun w2 s hx hs =>
   sizeText_any RP s (Lib.itoa d) x w w2 IT (xt X1 hx) hs (itoa_len0 g0 g1).1 (itoa_len0 g0 g1).2 gx0 gx1
  have SZ:Hid ((sizeT (Lib.itoa d) x).length≤1000):=sizeT_len (itoa_len0 g0 g1).2 gx0 gx1;clear hg g0 g1 g2 gx0 gx1 d1 d2 IT;go_wp2_with fail;go_region_held3 (fun w'=>w'.cell? ⟨w.heap.size,0,none⟩=some (.bool n)∧w'.cell? ⟨w.heap.size,1,none⟩=some (.int .i64 d)∧w'.cell? ⟨w.heap.size,2,none⟩=some (.int .i64 x)) (go_keep)
   (first
    | (go_at_call 87;refine (IC.out _ (by first | exact xd (xr _) | exact xr _)).mono ?_;rintro r w2 ⟨s,rfl,hs,e2⟩;have X2:Ext w1 w2:=xt (by first | exact xd (xr _) | exact xr _) e2;have HS:Hid (s.data.toList=Lib.itoa d):=hs;clear hs;obtain ⟨⟨a20,a21,a22⟩,_⟩:=B.later X2)
    | (go_at_call 86;refine (SC.out _ _ (xt X2 (by first | exact xr _ | exact xd (xr _))) HS.out).mono ?_;rintro r w3 ⟨t,rfl,ht,e3⟩;have X3:Ext w1 w3:=xt (xt X2 (by first | exact xr _ | exact xd (xr _))) e3;have htz:t.size≤1000:=(by rw [size_of ht];exact SZ.out);have HTT:Hid (t.data.toList=sizeT (Lib.itoa d) x):=ht;clear ht;obtain ⟨⟨a30,a31,a32⟩,_⟩:=B.later X3))
  all_goals
   cases n
   ·go_wp2_with fail;go_ret;exact ⟨_,rfl,by rw [HT.out];simp [HTT.out],xt X1 X3⟩
   ·go_wp2_with fail;go_ret;exact ⟨_,rfl,by rw [HT.out];simp [HTT.out],xt X1 X3⟩
end Go.Proofs.YtogecaajnjcenaaGreatDoor

