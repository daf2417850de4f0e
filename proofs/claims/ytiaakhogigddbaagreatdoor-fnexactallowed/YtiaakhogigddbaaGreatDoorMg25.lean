/-
  Several texts in one: ReadNum, Read.
-/
import Derived.Test.YtiaakhogigddbaaGreatDoorMg17
import Derived.Test.YtiaakhogigddbaaGreatDoorMg8
import Derived.OwnWalk
import Derived.Laws.OwnMore
namespace Go.Proofs.YtiaakhogigddbaaGreatDoor
theorem dv_step (ds:List Int) (hi k:Nat) (h1:k<hi) (h2:hi≤ds.length):dv ((ds.take hi).drop k)=dv ((ds.take hi).drop (k+1)) * 10+ds.getD k 0:=by
 have hl:k<(ds.take hi).length:=by simp;omega
 rw [List.drop_eq_getElem_cons hl];simp only [dv,List.getElem_take];simp [show k<ds.length by omega];omega
theorem D10.drop {xs:List Int} (h:D10 xs) (n:Nat):D10 (xs.drop n):=fun y hy=>h y (List.mem_of_mem_drop hy)
theorem dv_part {ds:List Int} (h:D10 ds) (hi k:Nat) (hk:hi≤k+9):0≤dv ((ds.take hi).drop k)∧dv ((ds.take hi).drop k)<1000000000:=by
 refine ⟨dv_nonneg ((h.take hi).drop k),?_⟩;have h1:=dv_lt ((h.take hi).drop k);have h2:((ds.take hi).drop k).length≤9:=by simp;omega
 have h3:(10:Int) ^ ((ds.take hi).drop k).length≤10 ^ 9:=by
  have:=Nat.pow_le_pow_right (n:=10) (by decide) h2;exact_mod_cast this
 have h4:(10:Int) ^ 9=1000000000:=by decide
 omega
theorem dv_part8 {ds:List Int} (h:D10 ds) (hi k:Nat) (hk:hi≤k+8):0≤dv ((ds.take hi).drop k)∧dv ((ds.take hi).drop k)<100000000:=by
 refine ⟨dv_nonneg ((h.take hi).drop k),?_⟩;have h1:=dv_lt ((h.take hi).drop k);have h2:((ds.take hi).drop k).length≤8:=by simp;omega
 have h3:(10:Int) ^ ((ds.take hi).drop k).length≤10 ^ 8:=by
  have:=Nat.pow_le_pow_right (n:=10) (by decide) h2;exact_mod_cast this
 have h4:(10:Int) ^ 8=100000000:=by decide
 omega
def ReadAt (ds xs:List Int) (m:Nat):Prop:=xs.length=m∧Lim xs∧lv xs=dv (ds.take (9 * m))
theorem ReadAt.start (ds:List Int):ReadAt ds [] 0:=⟨rfl,Lim.nil,by simp [dv,lv]⟩
theorem ReadAt.step {ds xs:List Int} {m hi:Nat} (h:ReadAt ds xs m) (hd:D10 ds) (hlo:9 * m<ds.length) (hhi:hi=min (9 * m+9) ds.length):ReadAt ds (xs++[dv ((ds.take hi).drop (9 * m))]) (m+1):=by
 obtain ⟨h1,h2,h3⟩:=h;have hp:=dv_part hd hi (9 * m) (by omega);refine ⟨by simp [h1],h2.app (Lim.cons hp.1 hp.2 Lim.nil),?_⟩;rw [lv_app,h3,h1];have e1:ds.take (9 * (m+1))=ds.take hi:=by
  rcases Nat.lt_or_ge (9 * m+9) ds.length with hl | hl
  ·rw [show hi=9 * (m+1) by omega]
  ·rw [show hi=ds.length by omega,List.take_length,List.take_of_length_le (by omega)]
 have e2:ds.take hi=ds.take (9 * m)++(ds.take hi).drop (9 * m):=by
  have:=List.take_append_drop (9 * m) (ds.take hi);rw [List.take_take,show min (9 * m) hi=9 * m by omega] at this;exact this.symm
 have e3:(ds.take (9 * m)).length=9 * m:=by simp;omega
 have e4:dv (ds.take hi)=dv (ds.take (9 * m))+10 ^ (9 * m) * dv ((ds.take hi).drop (9 * m)):=by
  conv=>lhs;rw [e2]
  rw [dv_app,e3]
 rw [e1,e4,pow9];simp [lv]
theorem ReadAt.done {ds xs:List Int} {m:Nat} (h:ReadAt ds xs m) (hm:ds.length≤9 * m):Lim xs∧lv xs=dv ds:=⟨h.2.1,by rw [h.2.2,List.take_of_length_le hm]⟩
def Plain (s:ByteArray) (ds:List Int):Prop:=s=⟨(ds.reverse.map chr).toArray⟩
theorem Plain.size {s:ByteArray} {ds:List Int} (h:Plain s ds):s.size=ds.length:=by
 rw [h];simp [ByteArray.size]
theorem Plain.at {s:ByteArray} {ds:List Int} (h:Plain s ds) (hd:D10 ds) {p k:Nat} (hp:p+k+1=ds.length) (hs:p<s.size):((s[p]'hs).toNat:Int)=48+ds.getD k 0:=by
 have hk:k<ds.length:=by omega
 have:=hd.getD k;rw [← chr_nat (d:=ds.getD k 0) (by omega) (by omega)];subst h;have hk2:ds.length - 1 - p=k:=by omega
 simp [ByteArray.getElem_eq_getElem_data,hk,hk2]
end Go.Proofs.YtiaakhogigddbaaGreatDoor

namespace Go.Proofs.YtiaakhogigddbaaGreatDoor
open Go.RowKit
theorem infoR:(Tryz.prog.info? 131).map (fun i=>(i.zero,i.size,i.bytes))=some (some (.int .u32 0),1,4):=by kernel_rfl
theorem Row.owned {w:World} {base:Nat} {v:Value} {fs:List Int} (h:w.ownsRow base 131 1 v fs.length (fs.map (Value.int .u32))):Row w v fs:=by
 obtain ⟨_,h | ⟨g,cap,cur,rfl,_,hg,h1,h2,h3,h4⟩⟩:=h
 ·obtain ⟨rfl,h0⟩:=h;exact ⟨none,0,by rw [h0],by omega,by decide,.inl ⟨rfl,rfl⟩⟩
 ·refine ⟨_,cap,rfl,h1,by unfold maxLen at h2;exact h2,.inr ⟨g,0,rfl,fun i hi=>?_⟩⟩;rw [Nat.zero_add,cell_of_row w g i cur 131 (0,0) hg];have e:cur[i]?=(cur.toList.take (fs.length * 1))[i]?:=by
   rw [List.getElem?_take,if_pos (by omega)];simp
  rw [e,h4];simp [hi]
def OwnL (w:World) (B:Nat) (v:Value) (xs:List Int):Prop:=w.ownsRow B 131 1 v xs.length (xs.map (Value.int .u32))
theorem OwnL.nil (w:World) (B:Nat):OwnL w B (.slice none 0 0) []:=⟨rfl,.inl ⟨rfl,rfl⟩⟩
theorem OwnL.block {w:World} {B:Nat} {v:Value} {xs:List Int} (h:OwnL w B v xs):∀ k,v.ownBlock=some k→B≤k:=by
 intro k hk
 rcases h.2 with ⟨rfl,_⟩ | ⟨g,cap,cur,rfl,hg,_⟩
 ·cases hk
 ·cases hk;exact hg
set_option maxRecDepth 4000 in
set_option maxHeartbeats 2000000 in
theorem read_plain {s:ByteArray} {ds:List Int} (w:World) (hp:Plain s ds) (hd:D10 ds) (n0:0<ds.length) (n1:ds.length≤1000000) :
  Calls Tryz.prog 119 #[.string s] w fun e w'=>∃ v',e=.returned v'∧ZV w' v' (dv ds)∧Ext w w':=by
 obtain ⟨i0,hi,hz0,hz1,hz2⟩:=info_parts infoR;have hsz:=hp.size;have h0:0<s.size:=by omega
 have hb0:=hp.at hd (p:=0) (k:=ds.length - 1) (by omega) h0;have hd0:=hd.getD (ds.length - 1);obtain ⟨d0,ed0⟩:∃ d,ds.getD (ds.length - 1) 0=d:=⟨_,rfl⟩;rw [ed0] at hb0 hd0;obtain ⟨d1,d2⟩:=hd0;have hne:((48+d0:Int) == 45)=false:=by rw [beq_eq_false_iff_ne];omega
 clear ed0;go_enter Tryz.func119,Tryz.ntmps119;go_wp2_with fail;clear hb0 hne d1 d2 h0;obtain ⟨W1,hW1⟩:∃ W1,w.alloc (.cells #[.int .i64 0,.bool false,.slice none 0 0] 110)=W1:=⟨_,rfl⟩;have BX:=Box3.made w (.int .i64 0) (.bool false) (.slice none 0 0) 110;have X1:=x1 w (.cells #[.int .i64 0,.bool false,.slice none 0 0] 110);rw [hW1] at BX X1;rw [hW1];obtain ⟨B,hB⟩:∃ B,W1.heap.size=B:=⟨_,rfl⟩;clear hW1;go_loopw [4,5] (fun d en wr=>∃ (m:Nat) (xs:List Int) (E:Int),E=(ds.length:Int) - 9 * (m:Int) ∧ -9<E∧en=.int .i64 E∧OwnL wr B d xs∧ReadAt ds xs m∧Ext W1 wr) (fun _ en _=>(intOf en+9).toNat)
 case atStart=>exact ⟨0,[],_,by simp,by omega,rfl,OwnL.nil _ _,ReadAt.start ds,xr _⟩
 case round =>
  obtain ⟨m,xs,E,hE,hE9,rfl,hO,hA,X⟩:=hrel;have HE:Hid (E=(ds.length:Int) - 9 * (m:Int)):=hE;by_cases hpos:0<E
  ·have hE2:E≤1000000:=by omega
   obtain ⟨hh,hhm⟩:∃ hh,hh=min (9 * m+9) ds.length:=⟨_,rfl⟩;by_cases hbig:E - 9<0
   ·have hh2:hh=ds.length:=(by omega);clear hE;go_wp2_with fail
    go_loop [7,8] (fun x i=>∃ k p:Nat,9 * m≤k∧k≤hh∧p+k=ds.length∧i=.int .i64 p∧x=.int .u32 (dv ((ds.take hh).drop k))) (fun _ i=>ds.length - (intOf i).toNat)
    case atStart=>exact ⟨hh,ds.length - hh,by have:=HE.out;omega,Nat.le_refl _,by have:=HE.out;omega,by have:=HE.out;congr 1;omega,by rw [List.drop_eq_nil_of_le (by simp;omega)];rfl⟩
    case round =>
     obtain ⟨k,p,k1,k2,pk,rfl,rfl⟩:=hrel;by_cases hk:k=9 * m
     ·subst hk;have hE:=HE.out;have hpE:(p:Int)=E:=(by omega);have HS:Hid (ReadAt ds (xs++[dv ((ds.take hh).drop (9 * m))]) (m+1)):=hA.step hd (by omega) hhm;have hb:=dv_part hd hh (9 * m) (by omega);obtain ⟨x,ex⟩:∃ x,dv ((ds.take hh).drop (9 * m))=x:=⟨_,rfl⟩;rw [ex] at HS hb;rw [ex];have HO:Hid (OwnL wr B u4 xs):=hO;have hl:xs.length≤1000000:=(by rw [hA.1];omega);have hBs:B≤wr.heap.size:=(by have:=X.size;omega);have HU:=hO.block;clear ex hA hO hE;go_wp2_with (at_builtin;refine wpList_append_own _ rfl _ _ 108 rfl B 131 i0 (.int .u32 0) 1 4 Tryz.underlying108 hi hz0 hz1 hz2 rfl (by decide) _ _ _ rfl (HO.out.alloc _) ⟨wr.heap.size,0,none⟩ 1 1 _ rfl rfl (cell_one_new _ _ _) (by intro u hu;simp at hu;subst hu;rfl) (by unfold maxLen;omega) (by omega) (by simp;omega) ?_;intro v5 w5 hown5 hgrow5 hnil5);go_roundw
      case rel =>
       refine ⟨m+1,xs++[x],E - 9,by rw [HE.out];omega,by omega,rfl,?_,HS.out,(xa X _).grown hgrow5 (by simp;omega) (fun k hk=>by rw [hB];exact HU k hk)⟩;unfold OwnL;simpa using hown5
      case measure=>simp [intOf];omega
     ·obtain ⟨j,rfl⟩:∃ j,k=j+1:=⟨k - 1,by omega⟩;have hE:=HE.out;have hps:p<s.size:=(by omega);have hpl:(p:Int)<E:=(by omega);have hb:=hp.at hd (p:=p) (k:=j) (by omega) hps;have hdj:=hd.getD j;have hx:=dv_part8 hd hh (j+1) (by omega);have HS:Hid (_=_):=dv_step ds hh j (by omega) (by omega);obtain ⟨x,ex⟩:∃ x,dv ((ds.take hh).drop (j+1))=x:=⟨_,rfl⟩;obtain ⟨d,ed⟩:∃ d,ds.getD j 0=d:=⟨_,rfl⟩;rw [ex] at HS hx;rw [ed] at HS hdj hb;rw [ex];obtain ⟨x0,x1'⟩:=hx;obtain ⟨f0,f1⟩:=hdj;clear ex ed hA hO hE;go_wp2_with fail
      go_round
      case rel=>exact ⟨j,p+1,by omega,by omega,by omega,by go_num,by rw [HS.out];congr 1;omega⟩
      case measure=>simp [intOf];omega
   ·have hh2:hh=9 * m+9:=(by omega);clear hE;go_wp2_with fail
    go_loop [7,8] (fun x i=>∃ k p:Nat,9 * m≤k∧k≤hh∧p+k=ds.length∧i=.int .i64 p∧x=.int .u32 (dv ((ds.take hh).drop k))) (fun _ i=>ds.length - (intOf i).toNat)
    case atStart=>exact ⟨hh,ds.length - hh,by have:=HE.out;omega,Nat.le_refl _,by have:=HE.out;omega,by have:=HE.out;congr 1;omega,by rw [List.drop_eq_nil_of_le (by simp;omega)];rfl⟩
    case round =>
     obtain ⟨k,p,k1,k2,pk,rfl,rfl⟩:=hrel;by_cases hk:k=9 * m
     ·subst hk;have hE:=HE.out;have hpE:(p:Int)=E:=(by omega);have HS:Hid (ReadAt ds (xs++[dv ((ds.take hh).drop (9 * m))]) (m+1)):=hA.step hd (by omega) hhm;have hb:=dv_part hd hh (9 * m) (by omega);obtain ⟨x,ex⟩:∃ x,dv ((ds.take hh).drop (9 * m))=x:=⟨_,rfl⟩;rw [ex] at HS hb;rw [ex];have HO:Hid (OwnL wr B u4 xs):=hO;have hl:xs.length≤1000000:=(by rw [hA.1];omega);have hBs:B≤wr.heap.size:=(by have:=X.size;omega);have HU:=hO.block;clear ex hA hO hE;go_wp2_with (at_builtin;refine wpList_append_own _ rfl _ _ 108 rfl B 131 i0 (.int .u32 0) 1 4 Tryz.underlying108 hi hz0 hz1 hz2 rfl (by decide) _ _ _ rfl (HO.out.alloc _) ⟨wr.heap.size,0,none⟩ 1 1 _ rfl rfl (cell_one_new _ _ _) (by intro u hu;simp at hu;subst hu;rfl) (by unfold maxLen;omega) (by omega) (by simp;omega) ?_;intro v5 w5 hown5 hgrow5 hnil5);go_roundw
      case rel =>
       refine ⟨m+1,xs++[x],E - 9,by rw [HE.out];omega,by omega,rfl,?_,HS.out,(xa X _).grown hgrow5 (by simp;omega) (fun k hk=>by rw [hB];exact HU k hk)⟩;unfold OwnL;simpa using hown5
      case measure=>simp [intOf];omega
     ·obtain ⟨j,rfl⟩:∃ j,k=j+1:=⟨k - 1,by omega⟩;have hE:=HE.out;have hps:p<s.size:=(by omega);have hpl:(p:Int)<E:=(by omega);have hb:=hp.at hd (p:=p) (k:=j) (by omega) hps;have hdj:=hd.getD j;have hx:=dv_part8 hd hh (j+1) (by omega);have HS:Hid (_=_):=dv_step ds hh j (by omega) (by omega);obtain ⟨x,ex⟩:∃ x,dv ((ds.take hh).drop (j+1))=x:=⟨_,rfl⟩;obtain ⟨d,ed⟩:∃ d,ds.getD j 0=d:=⟨_,rfl⟩;rw [ex] at HS hx;rw [ed] at HS hdj hb;rw [ex];obtain ⟨x0,x1'⟩:=hx;obtain ⟨f0,f1⟩:=hdj;clear ex ed hA hO hE;go_wp2_with fail
      go_round
      case rel=>exact ⟨j,p+1,by omega,by omega,by omega,by go_num,by rw [HS.out];congr 1;omega⟩
      case measure=>simp [intOf];omega
  ·have HD:Hid (Lim xs∧lv xs=dv ds):=hA.done (by omega);have HR:Hid (Row wr u4 xs):=Row.owned hO;have B3:=BX.later X;have X3:=xt X1 X;clear hA hO hE BX X1 X hp hd;go_wp2_with fail;refine (make_any false _ HR.out HD.out.1).mono ?_;rintro e w2 ⟨v',rfl,hz2',e2⟩;rw [show sgn false (lv xs)=dv ds from HD.out.2] at hz2';obtain ⟨a0',a1',p',n',cap',rfl⟩:=hz2'.shape;have B4:=B3.later e2;have Hz:=hz2'.set3 B4 (.int .i64 a0') (.bool a1') (.slice p' n' cap');have Hx:=Ext.set3 (b:=w.heap.size) (xt X3 e2) (Nat.le_refl _) (.int .i64 a0') (.bool a1') (.slice p' n' cap');obtain ⟨⟨r0,r1,r2⟩,s0,s1,s2⟩:=B4
   go_wp2
   exact bodyPost_ret (v:=.agg #[.int .i64 a0',.bool a1',.slice p' n' cap']) (by simp [results,Tryz.results119,go_sem,r0,r1,r2]) rfl ⟨_,rfl,Hz,Hx⟩
end Go.Proofs.YtiaakhogigddbaaGreatDoor

