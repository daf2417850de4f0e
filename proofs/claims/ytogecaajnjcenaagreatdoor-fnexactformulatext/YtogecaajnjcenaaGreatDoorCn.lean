/-
  ColName on both sides.
-/
import Derived.Test.YtogecaajnjcenaaGreatDoorMg1
import Derived.Laws.IdiomStrings
namespace Go.Proofs.YtogecaajnjcenaaGreatDoor
open Go.RowKit
theorem letSlice:∀ a:Nat,a<26→((⟨#[65,66,67,68,69,70,71,72,73,74,75,76,77,78,79,80,81,82,83,84,85,86,87,88,89,90]⟩:ByteArray).extract a (a+1)).data.toList=[UInt8.ofNat (65+a)]:=by decide +kernel
set_option maxHeartbeats 1000000 in
theorem colNameI_in (n:Int) (w:World) (h1:1≤n) (h2:n≤200) :
  Calls Tryz.prog 153 #[.int .i64 n] w fun e w'=>∃ s,e=.returned (.string s)∧s.data.toList=colN n.toNat∧w'=w:=by
 have C1:=fun w=>isColI n w;simp only [show (1≤n∧n≤200) from ⟨h1,h2⟩,and_self,decide_true] at C1;go_enter Tryz.func153,Tryz.ntmps153;go_wp2_with (first | (go_at_call 48;refine (C1 _).mono ?_;rintro e w' ⟨rfl,rfl⟩))
 go_loop [0,3] (fun a b=>∃ (m:Nat) (s:ByteArray),a=.int .i64 m∧b=.string s∧m≤200∧Hid (nameOf m++s.data.toList=colN n.toNat)∧s.size+m≤200) (fun a _=>(intOf a).toNat)
 case atStart=>exact ⟨n.toNat,_,by rw [Int.toNat_of_nonneg (by omega)],rfl,by omega,by show nameOf n.toNat++[]=_;unfold nameOf;rw [if_neg (by omega),List.append_nil],by show 0+n.toNat≤200;omega⟩
 case round =>
  obtain ⟨m,s,rfl,rfl,hm,HN,HS⟩:=hrel;by_cases hm0:m=0
  ·subst hm0;have HE:Hid (s.data.toList=colN n.toNat):=HN.out;go_wp2_with fail;go_ret;exact ⟨s,rfl,HE.out,rfl⟩
  ·have hm1:(1:Int)≤m:=by omega
   obtain ⟨a,ha⟩:∃ a:Nat,(m - 1) % 26=a:=⟨_,rfl⟩;obtain ⟨q,hq⟩:∃ q:Nat,(m - 1) / 26=q:=⟨_,rfl⟩;have ha':((m:Int) - 1).tmod 26=(a:Int):=by rw [Int.tmod_eq_emod_of_nonneg (by omega)];omega
   have hq':((m:Int) - 1).tdiv 26=(q:Int):=by rw [Int.tdiv_eq_ediv_of_nonneg (by omega)];omega
   have a26:a<26:=by omega
   have q200:q<m:=by omega
   have HN2:Hid (nameOf q++((⟨#[65,66,67,68,69,70,71,72,73,74,75,76,77,78,79,80,81,82,83,84,85,86,87,88,89,90]⟩:ByteArray).extract a (a+1)++s).data.toList=colN n.toNat):=by
    have h:=HN.out;rw [nameOf_step m (by omega) (by omega),ha,hq] at h;have e:=letSlice a a26;show nameOf q++_=_;rw [ByteArray.data_append,Array.toList_append,e,← List.append_assoc];exact h
   have hmin:min (a+1) 26 - a=1:=by omega
   clear HN ha hq;go_wp2_with fail
   go_round
   case rel=>exact ⟨q,_,rfl,rfl,by omega,HN2,by
    have:((⟨#[65,66,67,68,69,70,71,72,73,74,75,76,77,78,79,80,81,82,83,84,85,86,87,88,89,90]⟩:ByteArray).extract a (a+1)).size=1:=(by rw [size_ofL' (letSlice a a26)];rfl);rw [ByteArray.size_append,this];omega⟩
   case measure=>simp [intOf];omega
theorem colNameI (n:Int) (w:World) :
  Calls Tryz.prog 153 #[.int .i64 n] w fun e w'=>∃ s,e=.returned (.string s)∧s.data.toList=colName n∧w'=w:=by
 by_cases h:1≤n∧n≤200
 ·rw [colName,if_pos h];exact colNameI_in n w h.1 h.2
 ·rw [colName,if_neg h];have C1:=fun w=>isColI n w;simp only [h,decide_false] at C1;go_enter Tryz.func153,Tryz.ntmps153;go_wp2_with (first | (go_at_call 48;refine (C1 _).mono ?_;rintro e w' ⟨rfl,rfl⟩));go_ret;exact ⟨_,rfl,rfl,rfl⟩
set_option maxRecDepth 8000 in
set_option maxHeartbeats 1000000 in
theorem colNameS_in (n:Int) (w:World) (h1:1≤n) (h2:n≤200) :
  Calls Tryz.prog 71 #[.int .i64 n] w fun e w'=>∃ s,e=.returned (.string s)∧s.data.toList=colN n.toNat∧Ext w w':=by
 have f1:decide (n<1)=false:=by simp;omega
 have f2:decide (n > 200)=false:=by simp;omega
 go_enter Tryz.func71,Tryz.ntmps71;go_wp2_with fail;go_loopw [0,3] (fun a b wr=>∃ (m:Nat) (s:ByteArray),a=.int .i64 m∧b=.string s∧m≤200∧Hid (nameOf m++s.data.toList=colN n.toNat)∧s.size+m≤200∧Ext w wr) (fun a _ _=>(intOf a).toNat)
 case atStart=>exact ⟨n.toNat,_,by rw [Int.toNat_of_nonneg (by omega)],rfl,by omega,by show nameOf n.toNat++[]=_;unfold nameOf;rw [if_neg (by omega),List.append_nil],by show 0+n.toNat≤200;omega,xr _⟩
 case round =>
  obtain ⟨m,s,rfl,rfl,hm,HN,HS,X⟩:=hrel;by_cases hm0:m=0
  ·subst hm0;have HE:Hid (s.data.toList=colN n.toNat):=HN.out;go_wp2_with fail;go_ret;exact ⟨s,rfl,HE.out,X⟩
  ·have hm1:(1:Int)≤m:=by omega
   obtain ⟨a,ha⟩:∃ a:Nat,(m - 1) % 26=a:=⟨_,rfl⟩;obtain ⟨q,hq⟩:∃ q:Nat,(m - 1) / 26=q:=⟨_,rfl⟩;have ha':((m:Int) - 1).tmod 26=(a:Int):=by rw [Int.tmod_eq_emod_of_nonneg (by omega)];omega
   have hq':((m:Int) - 1).tdiv 26=(q:Int):=by rw [Int.tdiv_eq_ediv_of_nonneg (by omega)];omega
   have a26:a<26:=by omega
   have q200:q<m:=by omega
   have hcv:=run_convert_bytes_back (P:=Tryz.prog) (wr.alloc (.cells #[.int .u8 (65+(a:Int))] 5)) 68 9 5 ⟨wr.heap.size,0,none⟩ 1 [UInt8.ofNat (65+a)] Tryz.underlying68 Tryz.underlying5 Tryz.underlying9 (fun j hj=>by
    have hj':j=0:=(by simpa using hj);subst hj';simp [go_sem];omega)
   rw [List.length_singleton] at hcv;obtain ⟨t,ht⟩:∃ t:ByteArray,(⟨[UInt8.ofNat (65+a)].toArray⟩:ByteArray)=t:=⟨_,rfl⟩;rw [ht] at hcv;have hts:t.data.toList=[UInt8.ofNat (65+a)]:=by rw [← ht]
   have htz:=size_ofL' hts;have HN2:Hid (nameOf q++(t++s).data.toList=colN n.toNat):=by
    have h:=HN.out;rw [nameOf_step m (by omega) (by omega),ha,hq] at h;show nameOf q++_=_;rw [ByteArray.data_append,Array.toList_append,hts,← List.append_assoc];exact h
   simp only [List.length_singleton] at htz;clear ha hq hts ht HN;go_wp2_with fail;go_roundw
   case rel=>exact ⟨q,_,rfl,rfl,by omega,HN2,by rw [ByteArray.size_append];omega,xa X _⟩
   case measure=>simp [intOf];omega
theorem colNameS (n:Int) (w:World) :
  Calls Tryz.prog 71 #[.int .i64 n] w fun e w'=>∃ s,e=.returned (.string s)∧s.data.toList=colName n∧Ext w w':=by
 by_cases h:1≤n∧n≤200
 ·rw [colName,if_pos h];exact colNameS_in n w h.1 h.2
 ·rw [colName,if_neg h];by_cases h1:n<1
  ·have f1:decide (n<1)=true:=by simp;omega
   go_enter Tryz.func71,Tryz.ntmps71;go_wp2_with fail;go_ret;exact ⟨_,rfl,rfl,xr _⟩
  ·have f1:decide (n<1)=false:=by simp;omega
   have f2:decide (n > 200)=true:=by simp;omega
   go_enter Tryz.func71,Tryz.ntmps71;go_wp2_with fail;go_ret;exact ⟨_,rfl,rfl,xr _⟩
theorem bytes_eq {s t:ByteArray} {l:List UInt8} (h:s.data.toList=l) (k:t.data.toList=l):s=t:=by
 cases s;cases t;simp only [ByteArray.mk.injEq];exact Array.toList_inj.1 (h.trans k.symm)
theorem toList_injA {s t:ByteArray} (h:s.toList=t.toList):s=t:=by
 rw [ByteArray.toList_eq,ByteArray.toList_eq] at h;exact bytes_eq rfl h.symm
theorem str_ne {t s:ByteArray} (h:(!t.toList == s.toList)=true):¬ t=s:=by rintro rfl;simp at h
theorem str_eq {t s:ByteArray} (h:(!t.toList == s.toList)=false):t=s:=toList_injA (by simpa using h)
theorem str_not {t s:ByteArray} (h:¬ t=s):(t.toList == s.toList)=false:=by
 rw [beq_eq_false_iff_ne];exact fun q=>h (toList_injA q)
end Go.Proofs.YtogecaajnjcenaaGreatDoor

