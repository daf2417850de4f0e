import Derived.Test.YtnbagcclckekkaaGreatDoorMg9
import Derived.Deep.DeepCutAuto
import Derived.RegionTactic
import Derived.ChangeAlike
import Derived.Test.YtnbagcclckekkaaGreatDoorMg1
namespace Go.Proofs.YtnbagcclckekkaaGreatDoor
open Go.RowKit
def lo (a b:Int):Int:=if b<a then b else a
def hi (a b:Int):Int:=if b<a then a else b
def loF (a b:Int) (p q:Bool):Bool:=if b<a then q else p
def hiF (a b:Int) (p q:Bool):Bool:=if b<a then p else q
abbrev norV (r c:Int) (rf cf:Bool) (r' c':Int) (rf' cf':Bool):Value:=arV (lo r r') (lo c c') (loF r r' rf rf') (loF c c' cf cf') (hi r r') (hi c c') (hiF r r' rf rf') (hiF c c' cf cf')
theorem Vec.made4' (w:World) (o:Obj) (v0 v1 v2 v3:Value) (t:TypeId):Vec ((w.alloc o).alloc (.cells #[v0,v1,v2,v3] t)) (w.heap.size+1) [v0,v1,v2,v3]:=by
 have h:=Vec.made4 (w.alloc o) v0 v1 v2 v3 t
 rwa [World.size_alloc] at h
abbrev spV (a b:Int):Value:=.agg #[.int .i64 a,.int .i64 b]
abbrev blV (a b c d:Int):Value:=.agg #[.int .i64 a,.int .i64 b,.int .i64 c,.int .i64 d]
set_option maxRecDepth 8000 in
set_option maxHeartbeats 1000000 in
theorem spanCommon (a b a' b':Int) (w:World) :
  Calls Tryz.prog 85 #[spV a b,spV a' b'] w fun e w'=>e=.returned (spV (hi a a') (lo b b'))∧Ext w w':=by
 by_cases ga:a<a'
 ·have ea:hi a a'=a':=by unfold hi;split <;> omega
  have fa:(a<a')=True:=eq_true ga;rw [ea];by_cases gb:b'<b
  ·have eb:lo b b'=b':=by unfold lo;split <;> omega
   have fb:(b'<b)=True:=eq_true gb;rw [eb];clear ga gb ea eb;go_enter Tryz.func85,Tryz.ntmps85
   go_wp2
   exact bodyPost_ret (v:=spV a' b') (by simp [results,Tryz.results85,go_sem] <;> (simp at fa fb;omega)) rfl ⟨rfl,xa (xa (x1 _ _) _) _⟩
  ·have eb:lo b b'=b:=by unfold lo;split <;> omega
   have fb:(b'<b)=False:=eq_false gb;rw [eb];clear ga gb ea eb;go_enter Tryz.func85,Tryz.ntmps85
   go_wp2
   exact bodyPost_ret (v:=spV a' b) (by simp [results,Tryz.results85,go_sem] <;> (simp at fa fb;omega)) rfl ⟨rfl,xa (xa (x1 _ _) _) _⟩
 ·have ea:hi a a'=a:=by unfold hi;split <;> omega
  have fa:(a<a')=False:=eq_false ga;rw [ea];by_cases gb:b'<b
  ·have eb:lo b b'=b':=by unfold lo;split <;> omega
   have fb:(b'<b)=True:=eq_true gb;rw [eb];clear ga gb ea eb;go_enter Tryz.func85,Tryz.ntmps85
   go_wp2
   exact bodyPost_ret (v:=spV a b') (by simp [results,Tryz.results85,go_sem] <;> (simp at fa fb;omega)) rfl ⟨rfl,xa (xa (x1 _ _) _) _⟩
  ·have eb:lo b b'=b:=by unfold lo;split <;> omega
   have fb:(b'<b)=False:=eq_false gb;rw [eb];clear ga gb ea eb;go_enter Tryz.func85,Tryz.ntmps85
   go_wp2
   exact bodyPost_ret (v:=spV a b) (by simp [results,Tryz.results85,go_sem] <;> (simp at fa fb;omega)) rfl ⟨rfl,xa (xa (x1 _ _) _) _⟩
set_option maxRecDepth 8000 in
set_option maxHeartbeats 1000000 in
theorem spanAround (a b a' b':Int) (w:World) :
  Calls Tryz.prog 86 #[spV a b,spV a' b'] w fun e w'=>e=.returned (spV (lo a a') (hi b b'))∧Ext w w':=by
 by_cases ga:a'<a
 ·have ea:lo a a'=a':=by unfold lo;split <;> omega
  have fa:(a'<a)=True:=eq_true ga;rw [ea];by_cases gb:b<b'
  ·have eb:hi b b'=b':=by unfold hi;split <;> omega
   have fb:(b<b')=True:=eq_true gb;rw [eb];clear ga gb ea eb;go_enter Tryz.func86,Tryz.ntmps86
   go_wp2
   exact bodyPost_ret (v:=spV a' b') (by simp [results,Tryz.results86,go_sem] <;> (simp at fa fb;omega)) rfl ⟨rfl,xa (xa (x1 _ _) _) _⟩
  ·have eb:hi b b'=b:=by unfold hi;split <;> omega
   have fb:(b<b')=False:=eq_false gb;rw [eb];clear ga gb ea eb;go_enter Tryz.func86,Tryz.ntmps86
   go_wp2
   exact bodyPost_ret (v:=spV a' b) (by simp [results,Tryz.results86,go_sem] <;> (simp at fa fb;omega)) rfl ⟨rfl,xa (xa (x1 _ _) _) _⟩
 ·have ea:lo a a'=a:=by unfold lo;split <;> omega
  have fa:(a'<a)=False:=eq_false ga;rw [ea];by_cases gb:b<b'
  ·have eb:hi b b'=b':=by unfold hi;split <;> omega
   have fb:(b<b')=True:=eq_true gb;rw [eb];clear ga gb ea eb;go_enter Tryz.func86,Tryz.ntmps86
   go_wp2
   exact bodyPost_ret (v:=spV a b') (by simp [results,Tryz.results86,go_sem] <;> (simp at fa fb;omega)) rfl ⟨rfl,xa (xa (x1 _ _) _) _⟩
  ·have eb:hi b b'=b:=by unfold hi;split <;> omega
   have fb:(b<b')=False:=eq_false gb;rw [eb];clear ga gb ea eb;go_enter Tryz.func86,Tryz.ntmps86
   go_wp2
   exact bodyPost_ret (v:=spV a b) (by simp [results,Tryz.results86,go_sem] <;> (simp at fa fb;omega)) rfl ⟨rfl,xa (xa (x1 _ _) _) _⟩
set_option maxHeartbeats 1000000 in
theorem spanEmpty (a b:Int) (w:World) :
  Calls Tryz.prog 73 #[spV a b] w fun e w'=>e=.returned (.bool (decide (a > b)))∧Ext w w':=by
 go_enter Tryz.func73,Tryz.ntmps73
 go_wp2
 all_goals go_ret
 all_goals exact ⟨rfl,x1 _ _⟩
set_option maxHeartbeats 400000 in
theorem maxS (a b:Int) (w:World) :
  Calls Tryz.prog 50 #[.int .i64 a,.int .i64 b] w fun e w'=>e=.returned (.int .i64 (hi a b))∧w'=w:=by
 go_enter Tryz.func50,Tryz.ntmps50
 go_wp2
 all_goals go_ret
 all_goals exact ⟨ret_int (by unfold hi;split <;> omega),rfl⟩
set_option maxHeartbeats 400000 in
theorem minS (a b:Int) (w:World) :
  Calls Tryz.prog 49 #[.int .i64 a,.int .i64 b] w fun e w'=>e=.returned (.int .i64 (lo a b))∧w'=w:=by
 go_enter Tryz.func49,Tryz.ntmps49
 go_wp2
 all_goals go_ret
 all_goals exact ⟨ret_int (by unfold lo;split <;> omega),rfl⟩
end Go.Proofs.YtnbagcclckekkaaGreatDoor
