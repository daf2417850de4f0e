/-
  Several texts in one: LibC, FrameL, Cur, FrameY, CurE, V6a, V6b, V6c, V6d, Num.
-/
import Derived.Test.YtkadkfmidlhedaaGreatDoorMg1
import Derived.Test.YtkadkfmidlhedaaGreatDoorShelf
import Derived.WalkSmall
import Derived.Lib.LaidTab
import Derived.Stop.LaidErr
import Derived.Test.YtkadkfmidlhedaaGreatDoorMg0
import Derived.Deep.QuietTactic
import Derived.BigQuiet
import Derived.Deep.RegionWith
import Derived.Deep.RegionHeld3
import Derived.Deep.DeepCutAuto
import Derived.Laws.Bits64b
import Derived.ChangeSlices
set_option maxRecDepth 8000
set_option maxHeartbeats 2000000
namespace Go.Proofs.YtkadkfmidlhedaaGreatDoor
open Go.RowKit
theorem zMD:Builder.Extra Tryz.prog layRepeat_ren:={
 sizeBuilder:=by kernel_rfl
 liesBuilder:=by kernel_rfl
 t5:=layRepeat.t5
 a5:=layRepeat.a5
 z5:=layRepeat.z5
 v5:=layRepeat.v5
 infoByte:=by kernel_rfl
 cellsByte:=by kernel_rfl
 sizeByte:=by kernel_rfl
 neB5:=by decide }
theorem zUL:layRepeat_ren.f 105=199:=by kernel_rfl
theorem zXH:layItoa_ren.f 171=149:=by kernel_rfl
theorem repC:RepC:=by
 intro c w h0 h1;obtain ⟨n,rfl⟩:∃ n:Nat,c=(n:Int):=⟨c.toNat,by omega⟩;have h:=Any.strings_Repeat layRepeat zMD ⟨#[48]⟩ n w (by omega) (by show 1 * n<=_;omega);rw [zUL] at h;refine h.mono fun e w' ⟨he,hw⟩=>⟨_,he,?_,hw⟩;have e:=Lib.repeatL_replicate 48 1 n;simp only [Nat.mul_one] at e;show Lib.repeatL [48] n=List.replicate ((n:Int)).toNat 48;rw [Int.toNat_natCast,<- e];rfl
theorem zPA:Tryz.prog.globalNamed "internal/strconv.uint64pow10" = some 8:=by kernel_rfl
theorem zRC (w:World) (k:Nat) (os:Array Obj):Ext w (Sort.grow (w.drewN k) os):=
 ⟨rfl,rfl,rfl,by simp [Sort.grow,World.drewN],fun i hi=>by simp [Sort.grow,World.drewN,Array.getElem?_append_left hi]⟩
theorem zXE {w0:World} (h0:Lib.TabIs Tryz.prog w0 "internal/strconv.uint64pow10" .u64 Lib.pow10Tab):zEN w0:=by
 intro n w b0 b1 X;have hlt:8<w0.heap.size:=by
  have h:=h0;unfold Lib.TabIs World.var? at h;simp only [zPA,Option.bind_some] at h;by_cases hk:8<w0.heap.size
  ·exact hk
  ·rw [Array.getElem?_eq_none (by omega)] at h;cases h
 have h:=Any.strconv_Itoa layItoa n (by omega) (by omega) w (var?_below X zPA hlt h0);rw [zXH] at h;refine h.mono fun e w' ⟨he,k,os,hw⟩=>⟨_,he,rfl,?_⟩;subst hw;exact zRC w k os
end Go.Proofs.YtkadkfmidlhedaaGreatDoor

namespace Go.Proofs.YtkadkfmidlhedaaGreatDoor
open Go.ChangeShapes Go.WideShapes Go.ChangeAt Go.RowKit
theorem zMQ:(Tryz.prog.globals[8]?).map (·.type)=some 137:=by kernel_rfl
theorem zQO {rest:List (String × DataW Unit)} {W:World} (h:laidMet Tryz.prog (("internal/strconv.uint64pow10", Rows.laid_internal_strconv_uint64pow10) :: rest) W):Lib.TabIs Tryz.prog W "internal/strconv.uint64pow10" .u64 Lib.pow10Tab:=
 Lib.tabIs_of_head (rest:=rest) zPA zMQ Tryz.underlying137 Tryz.underlying62 (by kernel_rfl) (by kernel_rfl) h
end Go.Proofs.YtkadkfmidlhedaaGreatDoor

namespace Go.Proofs.YtkadkfmidlhedaaGreatDoor
open Go.RowKit
structure Only (b:Nat) (w w':World):Prop where
 os:w'.os=w.os
 tape:w'.tape=w.tape
 output:w'.output=w.output
 size:w.heap.size<=w'.heap.size
 block:∀ k,k ≠ b->k<w.heap.size->w'.heap[k]?=w.heap[k]?
theorem Only.refl (b:Nat) (w:World):Only b w w:=⟨rfl,rfl,rfl,Nat.le_refl _,fun _ _ _=>rfl⟩
theorem Only.trans {b:Nat} {u v w:World} (h:Only b u v) (k:Only b v w):Only b u w:=
 ⟨k.os.trans h.os,k.tape.trans h.tape,k.output.trans h.output,Nat.le_trans h.size k.size,fun i hi hl=>(k.block i hi (Nat.lt_of_lt_of_le hl h.size)).trans (h.block i hi hl)⟩
theorem Only.of_ext {b:Nat} {w w':World} (h:Ext w w'):Only b w w':=⟨h.os,h.tape,h.output,h.size,fun k _ hl=>h.block k hl⟩
theorem Only.ext {b:Nat} {w0 w w':World} (x:Ext w0 w) (h:Only b w w') (hb:w0.heap.size<=b):Ext w0 w':=
 ⟨h.os.trans x.os,h.tape.trans x.tape,h.output.trans x.output,Nat.le_trans x.size h.size,fun k hk=>(h.block k (by omega) (Nat.lt_of_lt_of_le hk x.size)).trans (x.block k hk)⟩
theorem Only.drewN {b:Nat} {w w':World} (h:Only b w w') (n:Nat):Only b w (w'.drewN n):=⟨h.os,h.tape,h.output,h.size,h.block⟩
theorem Only.set {b i:Nat} {w w':World} (h:Only b w w') (u:Value):Only b w (w'.setCell ⟨b,i,none⟩ u):=
 h.trans ⟨rfl,rfl,rfl,by simp [World.setCell],fun k hk _=>Below.heap_setCell _ _ _ _ hk⟩
theorem Only.cell {b k o:Nat} {w w':World} (h:Only b w w') (hk:k ≠ b) {v:Value} (hc:w.cell? ⟨k,o,none⟩=some v):w'.cell? ⟨k,o,none⟩=some v:=by
 have hl:k<w.heap.size:=World.block_lt_of_cell? _ _ hc;unfold World.cell? at hc ⊢;rw [h.block k hk hl];exact hc
def zCQ (w:World) (base:Nat) (v:Value) (n:Nat):Prop:=
 ((∃ p cap,v=.slice p 0 cap)/\n=0)\/∃ (pb po cap:Nat),pb<base/\v=.slice (some ⟨pb,po,none⟩) n cap/\n<=cap/\∀ i,i<n->∃ x:Int,0<=x/\x<=255/\w.cell? ⟨pb,po+i,none⟩=some (.int .u8 x)
theorem zCQ.only {w w':World} {base b n:Nat} {v:Value} (h:zCQ w base v n) (o:Only b w w') (hb:base<=b):zCQ w' base v n:=by
 rcases h with h | ⟨pb,po,cap,h1,h2,h3,h4⟩
 ·exact .inl h
 ·refine .inr ⟨pb,po,cap,h1,h2,h3,fun i hi=>?_⟩;obtain ⟨x,x0,x1,hx⟩:=h4 i hi;exact ⟨x,x0,x1,o.cell (by omega) hx⟩
def Cur (w:World) (b base K:Nat):Prop:=∃ (v:Value) (n:Nat) (a s:Int),Box3 w b v (iQ a) (.int .u64 s)/\zCQ w base v n/\n<=1048576/\0<=a/\a<=K/\0<=s/\s<18446744073709551616/\base<=b
theorem xdNc {a b:World} (h:Ext a b) (n:Nat):Ext a (b.drewN n):=⟨h.os,h.tape,h.output,h.size,h.block⟩
theorem zEM {b i j:Nat} (h:i ≠ j):(⟨b,i,none⟩:Addr) ≠ ⟨b,j,none⟩:=fun e=>h (by cases e;rfl)
theorem Box3.put1c {w:World} {b:Nat} {v0 v1 v2:Value} (h:Box3 w b v0 v1 v2) (u:Value):Box3 (w.setCell ⟨b,1,none⟩ u) b v0 u v2:=by
 obtain ⟨⟨q0,q1,q2⟩,f0,f1,f2⟩:=h;refine ⟨⟨?_,World.cell?_setCell_same _ _ _ q1,?_⟩,?_,?_,?_⟩
 ·rw [World.cell?_setCell_other _ _ _ _ (zEM (by decide))];exact q0
 ·rw [World.cell?_setCell_other _ _ _ _ (zEM (by decide))];exact q2
 ·simp [World.frozen?_setCell,f0]
 ·simp [World.frozen?_setCell,f1]
 ·simp [World.frozen?_setCell,f2]
theorem Box3.put2c {w:World} {b:Nat} {v0 v1 v2:Value} (h:Box3 w b v0 v1 v2) (u:Value):Box3 (w.setCell ⟨b,2,none⟩ u) b v0 v1 u:=by
 obtain ⟨⟨q0,q1,q2⟩,f0,f1,f2⟩:=h;refine ⟨⟨?_,?_,World.cell?_setCell_same _ _ _ q2⟩,?_,?_,?_⟩
 ·rw [World.cell?_setCell_other _ _ _ _ (zEM (by decide))];exact q0
 ·rw [World.cell?_setCell_other _ _ _ _ (zEM (by decide))];exact q1
 ·simp [World.frozen?_setCell,f0]
 ·simp [World.frozen?_setCell,f1]
 ·simp [World.frozen?_setCell,f2]
theorem zSP (x:Int) (h0:0<=x) (h1:x<18446744073709551616):0<=bits BinOp.and IntKind.u64 x 255/\bits BinOp.and IntKind.u64 x 255<=255:=by
 obtain ⟨n,rfl⟩:∃ n:Nat,x=n:=⟨x.toNat,by omega⟩;have h:=bits_and_u64_nat n 255 (by omega) (by decide);have e:((255:Nat):Int)=255:=rfl;rw [e] at h;rw [h];have:=Nat.and_le_right (n:=n) (m:=255);omega
theorem zTH (x y:Int) (h0:0<=x) (h1:x<18446744073709551616) (k0:0<=y) (k1:y<18446744073709551616):0<=bits BinOp.or IntKind.u64 x y/\bits BinOp.or IntKind.u64 x y<18446744073709551616:=by
 obtain ⟨n,rfl⟩:∃ n:Nat,x=n:=⟨x.toNat,by omega⟩;obtain ⟨m,rfl⟩:∃ m:Nat,y=m:=⟨y.toNat,by omega⟩;rw [bits_or_u64_nat n m (by omega) (by omega)];have hx:n ||| m<2 ^ 64:=Nat.or_lt_two_pow (by omega) (by omega);omega
theorem Cur.drewN {w:World} {b base K:Nat} (h:Cur w b base K) (n:Nat):Cur (w.drewN n) b base K:=by
 obtain ⟨v,k,a,s,B,hc,r⟩:=h;exact ⟨v,k,a,s,B.l (xdNc (xr _) n),hc.only (b:=b) ((Only.refl b w).drewN n) r.2.2.2.2.2,r⟩
theorem zQS (b base K:Nat) (w:World) (h:Cur w b base K) (hK:K<=1000000000) :
  Calls Tryz.prog 105 #[.pointer (some ⟨b,0,none⟩)] w fun e w'=>∃ v:Int,e=.returned (iQ v)/\(0<=v/\v<=255)/\Cur w' b base (K+1)/\Only b w w':=by
 obtain ⟨v,n,a,s,B,hc,hn,a0,a1,s0,s1,hbb⟩:=h;have B':=B;obtain ⟨⟨q0,q1,q2⟩,g0,g1,g2⟩:=B';have wb:∀ x:Int,0<=IntKind.u64.wrap x/\IntKind.u64.wrap x<18446744073709551616:=fun x=>by rw [IntKind.wrap_u64];omega
 rcases hc with ⟨⟨np,ncap,rfl⟩,rfl⟩ | ⟨pb,po,cap,hpb,rfl,hnc,hx⟩
 ·have f1:decide (a<0)=false:=by simp;omega
  have f2:decide (a+1<=0)=false:=by simp;omega
  obtain ⟨S,hS⟩:=nm (IntKind.u64.wrap (IntKind.u64.wrap (IntKind.u64.wrap (s * 6364136223846793005))+1442695040888963407));have hS2:=wb (IntKind.u64.wrap (IntKind.u64.wrap (s * 6364136223846793005))+1442695040888963407);rw [hS] at hS2;have CU:Hid (∀ n,Cur (((w.drewN n).setCell ⟨b,1,none⟩ (iQ (a+1))).setCell ⟨b,2,none⟩ (.int .u64 S)) b base (K+1)):=fun n =>
   ⟨_,0,a+1,S,((B.l (xdNc (xr _) n)).put1c _).put2c _,.inl ⟨⟨_,_,rfl⟩,rfl⟩,by omega,by omega,by omega,hS2.1,hS2.2,hbb⟩
  have ON:Hid (∀ n,Only b w (((w.drewN n).setCell ⟨b,1,none⟩ (iQ (a+1))).setCell ⟨b,2,none⟩ (.int .u64 S))):=fun n=>(((Only.refl b w).drewN n).set _).set _;clear B wb;go_enter Tryz.func105,Tryz.ntmps105;go_wp2_with fail;go_quiet (fail);go_wp2_with fail;go_quiet (fail);go_wp2_with fail;obtain ⟨V,hV⟩:=nm (bits BinOp.and IntKind.u64 (S / 1099511627776) 255);have bv:=zSP (S / 1099511627776) (by omega) (by omega);rw [hV] at bv;go_ret;refine ⟨V,?_,bv,(CU.out _).drewN _,(ON.out _).drewN _⟩;rw [hV];exact zA9 (by unfold wrap64;omega)
 ·by_cases hlt:a<n
  ·obtain ⟨i,rfl⟩:∃ i:Nat,a=i:=⟨a.toNat,by omega⟩;obtain ⟨x,x0,x1,hxc⟩:=hx i (by omega);have f1:decide ((i:Int)<n)=true:=by simp;omega
   have f2:decide ((i:Int)+1<=n)=true:=by simp;omega
   have i1:(i:Int)<(n:Int):=by omega
   have wx:IntKind.u64.wrap x=x:=by rw [IntKind.wrap_u64];omega
   have wx2:IntKind.i64.wrap x=x:=by rw [IntKind.wrap_i64];omega
   obtain ⟨S,hS⟩:=nm (IntKind.u64.wrap (IntKind.u64.wrap (IntKind.u64.wrap (s * 6364136223846793005)+x)+1442695040888963407));have hS2:=wb (IntKind.u64.wrap (IntKind.u64.wrap (s * 6364136223846793005)+x)+1442695040888963407);rw [hS] at hS2;have CU:Hid (∀ w2:World,Only b w w2->Box3 w2 b (.slice (some ⟨pb,po,none⟩) n cap) (iQ i) (.int .u64 s)->Cur ((w2.setCell ⟨b,1,none⟩ (iQ ((i:Int)+1))).setCell ⟨b,2,none⟩ (.int .u64 S)) b base (K+1)/\Only b w ((w2.setCell ⟨b,1,none⟩ (iQ ((i:Int)+1))).setCell ⟨b,2,none⟩ (.int .u64 S))):=fun w2 o bx =>
    ⟨⟨_,n,(i:Int)+1,S,(bx.put1c _).put2c _,zCQ.only (.inr ⟨pb,po,cap,hpb,rfl,hnc,hx⟩) ((o.set _).set _) hbb,hn,by omega,by omega,hS2.1,hS2.2,hbb⟩,(o.set _).set _⟩
   have BB:Hid (∀ k,Box3 (w.drewN k) b (.slice (some ⟨pb,po,none⟩) n cap) (iQ i) (.int .u64 s)):=fun k=>B.l (xdNc (xr _) k);clear B wb hx;go_enter Tryz.func105,Tryz.ntmps105;go_wp2_with fail;go_quiet (fail);go_wp2_with fail;go_quiet (fail);go_wp2_with fail;go_quiet (fail);go_wp2_with fail;go_ret;have cu:=fun a'=>CU.out (w.drewN a') ((Only.refl b w).drewN a') (BB.out a');exact ⟨x,rfl,⟨x0,x1⟩,(cu _).1.drewN _,(cu _).2.drewN _⟩
  ·have f1:decide (a<(n:Int))=false:=by simp;omega
   have f2:decide (a+1<=(n:Int))=false:=by simp;omega
   obtain ⟨S,hS⟩:=nm (IntKind.u64.wrap (IntKind.u64.wrap (IntKind.u64.wrap (s * 6364136223846793005))+1442695040888963407));have hS2:=wb (IntKind.u64.wrap (IntKind.u64.wrap (s * 6364136223846793005))+1442695040888963407);rw [hS] at hS2;have ON:Hid (∀ k,Only b w (((w.drewN k).setCell ⟨b,1,none⟩ (iQ (a+1))).setCell ⟨b,2,none⟩ (.int .u64 S))):=fun k=>(((Only.refl b w).drewN k).set _).set _;have CU:Hid (∀ k,Cur (((w.drewN k).setCell ⟨b,1,none⟩ (iQ (a+1))).setCell ⟨b,2,none⟩ (.int .u64 S)) b base (K+1)):=fun k =>
    ⟨_,n,a+1,S,((B.l (xdNc (xr _) k)).put1c _).put2c _,zCQ.only (.inr ⟨pb,po,cap,hpb,rfl,hnc,hx⟩) (ON.out k) hbb,hn,by omega,by omega,hS2.1,hS2.2,hbb⟩
   clear B wb hx;go_enter Tryz.func105,Tryz.ntmps105;go_wp2_with fail;go_quiet (fail);go_wp2_with fail;go_quiet (fail);go_wp2_with fail;obtain ⟨V,hV⟩:=nm (bits BinOp.and IntKind.u64 (S / 1099511627776) 255);have bv:=zSP (S / 1099511627776) (by omega) (by omega);rw [hV] at bv;go_ret;refine ⟨V,?_,bv,(CU.out _).drewN _,(ON.out _).drewN _⟩;rw [hV];exact zA9 (by unfold wrap64;omega)
theorem Cur.ext {w w':World} {b base K:Nat} (h:Cur w b base K) (x:Ext w w'):Cur w' b base K:=by
 obtain ⟨v,k,a,s,B,hc,r⟩:=h;exact ⟨v,k,a,s,B.l x,hc.only (b:=b) (Only.of_ext x) r.2.2.2.2.2,r⟩
theorem Cur.lt {w:World} {b base K:Nat} (h:Cur w b base K):b<w.heap.size:=by
 obtain ⟨v,k,a,s,B,_⟩:=h;exact World.block_lt_of_cell? _ _ B.1.1
theorem Cur.more {w:World} {b base K K':Nat} (h:Cur w b base K) (hk:K<=K'):Cur w b base K':=by
 obtain ⟨v,k,a,s,B,hc,h1,h2,h3,r⟩:=h;exact ⟨v,k,a,s,B,hc,h1,h2,by omega,r⟩
theorem zBX (b base K:Nat) (n:Int) (w:World) (h:Cur w b base K) (hK:K<=100000000) (n0:1<n) (n1:n<=100000000) :
  Calls Tryz.prog 60 #[.pointer (some ⟨b,0,none⟩),iQ n] w fun e w'=>∃ v:Int,e=.returned (iQ v)/\(0<=v/\v<n)/\Cur w' b base (K+2)/\Only b w w':=by
 have f1:decide (n<=1)=false:=by simp;omega
 by_cases h2:n > 200
 ·have f2:decide (n > 200)=true:=by simp;omega
  go_enter Tryz.func60,Tryz.ntmps60;go_wp2_with fail;refine (zQS b base K w h (by omega)).mono ?_;rintro e w1 ⟨x,rfl,⟨x0,x1⟩,c1,o1⟩;go_wp2_with fail;refine (zQS b base (K+1) w1 c1 (by omega)).mono ?_;rintro e w2 ⟨y,rfl,⟨y0,y1⟩,c2,o2⟩;have hm:(x * 256+y).tmod n=(x * 256+y) % n:=Int.tmod_eq_emod_of_nonneg (by omega);have b1:=Int.emod_nonneg (x * 256+y) (show n ≠ 0 by omega);have b2:=Int.emod_lt_of_pos (x * 256+y) (show 0<n by omega);go_wp2_with fail;go_ret;exact ⟨_,rfl,⟨b1,b2⟩,c2,o1.trans o2⟩
 ·have f2:decide (n > 200)=false:=by simp;omega
  go_enter Tryz.func60,Tryz.ntmps60;go_wp2_with fail;refine (zQS b base K w h (by omega)).mono ?_;rintro e w1 ⟨x,rfl,⟨x0,x1⟩,c1,o1⟩;have b1:=Int.emod_nonneg x (show n ≠ 0 by omega);have b2:=Int.emod_lt_of_pos x (show 0<n by omega);go_wp2_with fail;go_ret;exact ⟨_,rfl,⟨b1,b2⟩,c1.more (by omega),o1⟩
theorem oneC (b base K:Nat) (n:Int) (w:World) (h:Cur w b base K) (hK:K<=100000000) (n0:1<n) (n1:n<=100000000) :
  Calls Tryz.prog 59 #[.pointer (some ⟨b,0,none⟩),iQ n] w fun e w'=>∃ v:Bool,e=.returned (.bool v)/\Cur w' b base (K+2)/\Only b w w':=by
 go_enter Tryz.func59,Tryz.ntmps59;go_wp2_with fail;refine (zBX b base K n w h hK n0 n1).mono ?_;rintro e w1 ⟨x,rfl,_,c1,o1⟩;go_wp2_with fail;go_ret;exact ⟨_,rfl,c1,o1⟩
theorem zWU (b base K:Nat) (w:World) (h:Cur w b base K) (hK:K<=10000000) :
  Calls Tryz.prog 127 #[.pointer (some ⟨b,0,none⟩)] w fun e w'=>∃ v:Int,e=.returned (.int .u64 v)/\(0<=v/\v<18446744073709551616)/\Cur w' b base (K+8)/\Only b w w':=by
 go_enter Tryz.func127,Tryz.ntmps127;go_wp2_with fail;go_loopw [3,4] (fun a i wr=>∃ (k:Nat) (x:Int),k<=8/\i=.int .i64 k/\a=.int .u64 x/\0<=x/\x<18446744073709551616/\Cur wr b base (K+k)/\Only b w wr) (fun _ i _=>8 - (intOf i).toNat)
 case atStart=>exact ⟨0,0,by omega,rfl,rfl,by omega,by omega,h,Only.refl b w⟩
 case round =>
  obtain ⟨k,x,hk,rfl,rfl,x0,x1,c,o⟩:=hrel;by_cases hlt:k<8
  ·have hlt':(k:Int)<8:=by omega
   go_wp2_with fail;refine (zQS b base (K+k) wr c (by omega)).mono ?_;rintro e w2 ⟨y,rfl,⟨y0,y1⟩,c2,o2⟩;have wy:IntKind.u64.wrap y=y:=by rw [IntKind.wrap_u64];omega
   have wz:0<=IntKind.u64.wrap (x * 256)/\IntKind.u64.wrap (x * 256)<18446744073709551616:=by rw [IntKind.wrap_u64];omega
   have oz:=zTH (IntKind.u64.wrap (x * 256)) y wz.1 wz.2 y0 (by omega);have HO:Hid (0<=bits BinOp.or IntKind.u64 (IntKind.u64.wrap (x * 256)) y/\bits BinOp.or IntKind.u64 (IntKind.u64.wrap (x * 256)) y<18446744073709551616):=oz;clear wz oz;go_wp2_with fail;go_roundw
   case rel=>exact ⟨k+1,_,by omega,by go_num,rfl,HO.out.1,HO.out.2,c2,o.trans o2⟩
   case measure=>simp [intOf];omega
  ·obtain rfl:k=8:=by omega
   go_wp2_with fail;go_ret;exact ⟨x,rfl,⟨x0,x1⟩,c,o⟩
end Go.Proofs.YtkadkfmidlhedaaGreatDoor

namespace Go.Proofs.YtkadkfmidlhedaaGreatDoor
open Go.ChangeShapes Go.WideShapes Go.ChangeAt Go.RowKit
theorem zOL {H:Type} {enc:TypeId × Value->H} {P:Program} {t e:TypeId} (ht:P.underlying t=some (.slice e)) (he:P.underlying e=some (.int .u8)) (hc:P.cellsOf e=1) {W:World} {base:Nat} {v:Value} {d:DataW H} {p:List MemPlace}
  (hv:Value.okWide P W .any base t v) (h:DataW.Trod enc P W 0 (fun _=>true) true t v d p):∃ n,zCQ W W.heap.size v n:=by
 obtain ⟨a0,len,cap,rfl⟩:=okWide_slice ht hv;obtain ⟨fuel,hf⟩:=h
 rcases open_ints ht he hc hf with ⟨hcs,hx⟩ | ⟨a,len',cap',zs,hcs,_,hl,hm,hz,hx,hcell,hwz⟩
 ·simp [Value.cells] at hcs;obtain ⟨rfl,rfl,rfl⟩:=hcs;exact ⟨0,.inl ⟨⟨_,_,rfl⟩,rfl⟩⟩
 ·simp [Value.cells] at hcs;obtain ⟨rfl,rfl,rfl⟩:=hcs;simp only [if_true] at hz;by_cases h0:len=0
  ·subst h0;exact ⟨0,.inl ⟨⟨_,_,rfl⟩,rfl⟩⟩
  ·obtain ⟨pb,po,sp⟩:=a;have hc0:=hcell 0 (by omega);have hsp:sp=none:=by simpa [Addr.add] using World.cell?_spot hc0
   subst hsp;have hlt:pb<W.heap.size:=by
    have:=World.block_lt_of_cell? _ _ hc0;simpa [Addr.add] using this
   refine ⟨len,.inr ⟨pb,po,cap,hlt,rfl,hl,fun i hi=>?_⟩⟩;have hci:=hcell i (by omega);have hi':i<zs.length:=by omega
   have hmem:zs.getD i 0 ∈ zs:=by
    rw [List.getD,List.getElem?_eq_getElem hi',Option.getD_some];exact List.getElem_mem hi'
   have hw:=hwz _ hmem;have b1:IntKind.u8.min=0:=rfl;have b2:IntKind.u8.max=255:=rfl;simp only [Lit.wf,Bool.and_eq_true,decide_eq_true_eq] at hw;refine ⟨zs.getD i 0,by omega,by omega,?_⟩;rw [<- hci];unfold Addr.add
   split
   ·next e=>subst e;rfl
   ·rfl
end Go.Proofs.YtkadkfmidlhedaaGreatDoor

namespace Go.Proofs.YtkadkfmidlhedaaGreatDoor
open Go.RowKit
theorem Only.setNew {b g i:Nat} {w w':World} (h:Only b w w') (hg:w.heap.size<=g) (u:Value):Only b w (w'.setCell ⟨g,i,none⟩ u):=by
 refine ⟨h.os,h.tape,h.output,?_,fun k hk hl=>?_⟩
 ·have:=h.size;simpa [World.setCell] using this
 ·rw [Below.heap_setCell _ _ _ _ (by show k ≠ g;omega)];exact h.block k hk hl
theorem zHD {b g i j:Nat} (h:b ≠ g):(⟨g,i,none⟩:Addr) ≠ ⟨b,j,none⟩:=fun e=>h (by cases e;rfl)
theorem Box3.farc {w:World} {b g i:Nat} {v0 v1 v2:Value} (h:Box3 w b v0 v1 v2) (hb:b ≠ g) (u:Value):Box3 (w.setCell ⟨g,i,none⟩ u) b v0 v1 v2:=by
 obtain ⟨⟨q0,q1,q2⟩,f0,f1,f2⟩:=h;refine ⟨⟨?_,?_,?_⟩,?_,?_,?_⟩
 ·rw [World.cell?_setCell_other _ _ _ _ (zHD hb)];exact q0
 ·rw [World.cell?_setCell_other _ _ _ _ (zHD hb)];exact q1
 ·rw [World.cell?_setCell_other _ _ _ _ (zHD hb)];exact q2
 ·simp [World.frozen?_setCell,f0]
 ·simp [World.frozen?_setCell,f1]
 ·simp [World.frozen?_setCell,f2]
theorem Cur.far {w:World} {b base K g i:Nat} (h:Cur w b base K) (hb:b ≠ g) (hg:base<=g) (u:Value):Cur (w.setCell ⟨g,i,none⟩ u) b base K:=by
 obtain ⟨v,k,a,s,B,hc,r⟩:=h;exact ⟨v,k,a,s,B.farc hb u,hc.only (b:=g) ((Only.refl g w).set u) hg,r⟩
theorem Cur.made (w:World) (v:Value) (n base:Nat) (t:TypeId) (hc:zCQ w base v n) (hn:n<=1048576) (hb:base<=w.heap.size):Cur (w.alloc (.cells #[v,iQ 0,.int .u64 0] t)) w.heap.size base 0:=
 ⟨v,n,0,0,Box3.made w _ _ _ _,hc.only (b:=w.heap.size) (Only.of_ext (x1 _ _)) hb,hn,by omega,by omega,by omega,by omega,hb⟩
abbrev valV (k:Int) (n:Bool) (d x:Int) (t:List UInt8):Value:=.agg #[iQ k,.bool n,iQ d,iQ x,sV t]
abbrev valL (k:Int) (n:Bool) (d x:Int) (t:List UInt8):List Value:=[iQ k,.bool n,iQ d,iQ x,sV t]
def zCR (n:Bool) (d x:Int):Bool:=!n && decide (d=0) && decide (x=0)
def zA4 (k:Int) (n:Bool) (d x:Int) (t:List UInt8):Bool:=
 if k=1 then zA1 n d x && (t == []) else
 zCR n d x && (if k=0 then t == [] else if k=2 then zEO 1000 t else if k=3 then zE9 t else if k=4 then memB errL t else false)
theorem zD6 (k:Int) (n:Bool) (d x:Int) (t:List UInt8) (w:World) (hl:t.length<=2000000) (d1 : -9223372036854775808<=d) (d2:d<=9223372036854775807) (hT:Tens w) (hE:zAH w) :
  Calls Tryz.prog 34 #[valV k n d x t] w fun e w'=>e=.returned (.bool (zA4 k n d x t))/\Ext w w':=by
 have X0:=x1 w (.cells #[iQ k,.bool n,iQ d,iQ x,sV t] 26);have B:=zA5 w (valL k n d x t) 26;have T1:=hT.l X0;have E1:=hE.l X0;obtain ⟨p,hp⟩:=nm ((t == []));clear hT hE;by_cases h1:k=1
 ·subst h1;have C:=fun W (X:Ext (w.alloc (.cells #[iQ 1,.bool n,iQ d,iQ x,sV t] 26)) W)=>zRG n d x W d1 d2 (T1.l X);have e:zA4 1 n d x t=(zA1 n d x && p):=by simp [zA4,hp]
  rw [e];obtain ⟨q,hq⟩:=nm (zA1 n d x);rw [hq] at C ⊢;clear e hq d1 d2;cases q
  ·go_enter Tryz.func34,Tryz.ntmps34;go_wp2_with (go_at_call 87;refine (C _ (xr _)).mono ?_;rintro e w1 ⟨rfl,e1⟩);go_ret;exact ⟨rfl,xt X0 e1⟩
  ·cases p
   all_goals
    go_enter Tryz.func34,Tryz.ntmps34;go_wp2_with (go_at_call 87;refine (C _ (xr _)).mono ?_;rintro e w1 ⟨rfl,e1⟩;have a4:=((B.l e1) 4 _ rfl).1);go_ret;exact ⟨rfl,xt X0 e1⟩
 ·by_cases hz:zCR n d x=true
  ·obtain ⟨rfl,rfl,rfl⟩:n=false/\d=0/\x=0:=by simpa [zCR,and_assoc] using hz
   clear hz d1 d2 T1;by_cases h0:k=0
   ·subst h0;have e:zA4 0 false 0 0 t=p:=(by simp [zA4,zCR,hp]);rw [e];clear e;cases p
    all_goals
     go_enter Tryz.func34,Tryz.ntmps34;go_wp2_with fail;go_ret;exact ⟨rfl,X0⟩
   ·clear hp;by_cases h2:k=2
    ·subst h2;have C:=fun W=>zVU t W hl;have e:zA4 2 false 0 0 t=(zGX t && decide ((t.length:Int)<=1000)):=by
      have e2:decide (t.length<=1000)=decide ((t.length:Int)<=1000):=decide_eq_decide.2 (by omega);simp [zA4,zCR,zEO,zGX,e2]
     rw [e];obtain ⟨m,hm⟩:=nm (t.length);have hs:(⟨t.toArray⟩:ByteArray).size=m:=hm;rw [hm] at hl ⊢;obtain ⟨q,hq⟩:=nm (zGX t);rw [hq] at C ⊢;clear e hq hm h0 h1;cases q
     all_goals
      go_enter Tryz.func34,Tryz.ntmps34;go_wp2_with (go_at_call 88;refine (C _).mono ?_;rintro e w1 ⟨rfl,rfl⟩);go_ret;exact ⟨zA6 (by simp),X0⟩
    ·by_cases h3:k=3
     ·subst h3;have C:=fun W=>zWM t W;have e:zA4 3 false 0 0 t=zE9 t:=(by simp [zA4,zCR]);rw [e];clear e h0 h1 h2;go_enter Tryz.func34,Tryz.ntmps34;go_wp2_with (go_at_call 49;refine (C _).mono ?_;rintro e w1 ⟨rfl,rfl⟩);go_ret;exact ⟨rfl,X0⟩
     ·by_cases h4:k=4
      ·subst h4;have C:=errI t _ E1;have e:zA4 4 false 0 0 t=memB errL t:=(by simp [zA4,zCR]);rw [e];clear e h0 h1 h2 h3;go_enter Tryz.func34,Tryz.ntmps34;go_wp2_with (go_at_call 51;refine C.mono ?_;rintro e w1 ⟨rfl,rfl⟩);go_ret;exact ⟨rfl,X0⟩
      ·have e:zA4 k false 0 0 t=false:=(by simp [zA4,zCR,h0,h1,h2,h3,h4]);rw [e];clear e;go_enter Tryz.func34,Tryz.ntmps34;go_wp2_with fail;go_ret;exact ⟨rfl,X0⟩
  ·have e:zA4 k n d x t=false:=by simp only [Bool.not_eq_true] at hz;simp [zA4,hz,h1]
   rw [e];clear e hp B T1 E1 hl;have hz':n=true\/(n=false/\(d ≠ 0\/(d=0/\x ≠ 0))):=by
    cases n
    ·right;refine ⟨rfl,?_⟩;by_cases hd:d=0
     ·right;refine ⟨hd,fun hx=>hz ?_⟩;simp [zCR,hd,hx]
     ·exact Or.inl hd
    ·exact Or.inl rfl
   clear hz
   rcases hz' with rfl | ⟨rfl,hd | ⟨rfl,hx⟩⟩
   all_goals
    go_enter Tryz.func34,Tryz.ntmps34;go_wp2_with fail;go_ret;exact ⟨rfl,X0⟩
theorem zHX (k:Int) (n:Bool) (d x:Int) (t:List UInt8) (w:World) (hl:t.length<=2000000) :
  Calls Tryz.prog 11 #[valV k n d x t] w fun e w'=>e=.returned (.bool (zA4 k n d x t))/\Ext w w':=by
 have X0:=x1 w (.cells #[iQ k,.bool n,iQ d,iQ x,sV t] 26);have B:=zA5 w (valL k n d x t) 26;obtain ⟨p,hp⟩:=nm ((t == []));by_cases h1:k=1
 ·subst h1;have C:=fun W=>zRF n d x W;have e:zA4 1 n d x t=(zA1 n d x && p):=by simp [zA4,hp]
  rw [e];obtain ⟨q,hq⟩:=nm (zA1 n d x);rw [hq] at C ⊢;clear e hq;cases p
  ·go_enter Tryz.func11,Tryz.ntmps11;go_wp2_with fail;go_ret;exact ⟨zA6 (by simp),X0⟩
  ·go_enter Tryz.func11,Tryz.ntmps11;go_wp2_with (go_at_call 43;refine (C _).mono ?_;rintro e w1 ⟨rfl,e1⟩);go_ret;exact ⟨zA6 (by simp),xt X0 e1⟩
 ·by_cases hz:zCR n d x=true
  ·obtain ⟨rfl,rfl,rfl⟩:n=false/\d=0/\x=0:=by simpa [zCR,and_assoc] using hz
   clear hz;by_cases h0:k=0
   ·subst h0;have e:zA4 0 false 0 0 t=p:=(by simp [zA4,zCR,hp]);rw [e];clear e;cases p
    all_goals
     go_enter Tryz.func11,Tryz.ntmps11;go_wp2_with fail;go_ret;exact ⟨rfl,X0⟩
   ·clear hp;by_cases h2:k=2
    ·subst h2;have C:=fun W=>zVO 1000 t W hl;have e:zA4 2 false 0 0 t=zEO 1000 t:=(by simp [zA4,zCR]);rw [e];clear e h0 h1;go_enter Tryz.func11,Tryz.ntmps11;go_wp2_with (go_at_call 44;refine (C _).mono ?_;rintro e w1 ⟨rfl,rfl⟩);go_ret;exact ⟨rfl,X0⟩
    ·by_cases h3:k=3
     ·subst h3;obtain ⟨p,hp⟩:=nm ((t == [84,82,85,69]));obtain ⟨q,hq⟩:=nm ((t == [70,65,76,83,69]));have e:zA4 3 false 0 0 t=(p || q):=(by simp only [zA4,zCR,zE9,hp,hq];rfl);rw [e];clear e h0 h1 h2;cases p <;> cases q
      all_goals
       go_enter Tryz.func11,Tryz.ntmps11;go_wp2_with fail;go_ret;exact ⟨rfl,X0⟩
     ·by_cases h4:k=4
      ·subst h4;have C:=fun W=>zPF W;have D:=fun g W V=>inS errL t g 9 W (by decide) V;have e:zA4 4 false 0 0 t=memB errL t:=(by simp [zA4,zCR]);rw [e];clear e h0 h1 h2 h3;go_enter Tryz.func11,Tryz.ntmps11;go_wp2_with fail;go_region_with (first
        | (go_at_call 46;refine (C _).mono ?_;rintro e w1 ⟨g,rfl,V,e1⟩;have a4:=((B.l (xt (xd (xr _)) e1)) 4 _ rfl).1)
        | (go_at_call 45;refine (D g _ V).mono ?_;rintro e w2 ⟨rfl,rfl⟩))
       all_goals
        go_wp2_with fail;go_ret;exact ⟨rfl,xt (xd X0) e1⟩
      ·have e:zA4 k false 0 0 t=false:=(by simp [zA4,zCR,h0,h1,h2,h3,h4]);rw [e];clear e;go_enter Tryz.func11,Tryz.ntmps11;go_wp2_with fail;go_ret;exact ⟨rfl,X0⟩
  ·have e:zA4 k n d x t=false:=by simp only [Bool.not_eq_true] at hz;simp [zA4,hz,h1]
   rw [e];clear e B hl;have hz':n=true\/(n=false/\(d ≠ 0\/(d=0/\x ≠ 0))):=by
    cases n
    ·right;refine ⟨rfl,?_⟩;by_cases hd:d=0
     ·right;refine ⟨hd,fun hx=>hz ?_⟩;simp [zCR,hd,hx]
     ·exact Or.inl hd
    ·exact Or.inl rfl
   clear hz;by_cases h0:k=0
   ·subst h0;cases p
    all_goals rcases hz' with rfl | ⟨rfl,hd | ⟨rfl,hx⟩⟩
    all_goals
     go_enter Tryz.func11,Tryz.ntmps11;go_wp2_with fail;go_ret;exact ⟨rfl,X0⟩
   ·clear hp
    rcases hz' with rfl | ⟨rfl,hd | ⟨rfl,hx⟩⟩
    all_goals
     go_enter Tryz.func11,Tryz.ntmps11;go_wp2_with fail;go_ret;exact ⟨rfl,X0⟩
def setL (w:World) (b:Nat):Nat->List Value->World
 | _,[]=>w
 | o,v :: vs=>setL (w.setCell ⟨b,o,none⟩ v) b (o+1) vs
theorem Vec.farL {b k:Nat} {l:List Value} (hk:k ≠ b):∀ (us:List Value) (o:Nat) {w:World},Vec w b l->Vec (setL w k o us) b l
 | [],_,_,h=>h
 | u :: us,o,_,h=>Vec.farL hk us (o+1) (h.far hk u)
theorem Ext.setL {a:World} {b:Nat} (hb:a.heap.size<=b):∀ (us:List Value) (o:Nat) {w:World},Ext a w->Ext a (setL w b o us)
 | [],_,_,h=>h
 | u :: us,o,_,h=>Ext.setL hb us (o+1) (xset h hb u)
theorem Vec.put5 {w:World} {b:Nat} {v0 v1 v2 v3 v4:Value} (h:Vec w b [v0,v1,v2,v3,v4]) (u0 u1 u2 u3 u4:Value):Vec (setL w b 0 [u0,u1,u2,u3,u4]) b [u0,u1,u2,u3,u4]:=
 ((((h.put 0 (by simp) u0).put 1 (by simp) u1).put 2 (by simp) u2).put 3 (by simp) u3).put 4 (by simp) u4
abbrev errT:List UInt8:=[35,86,65,76,85,69,33]
abbrev zAX:List UInt8:=[84,82,85,69]
abbrev zAA:List UInt8:=[70,65,76,83,69]
abbrev zD9 (b:Bool):Value:=valV 3 false 0 0 (if b then zAX else zAA)
abbrev errW:Value:=valV 4 false 0 0 errT
theorem zIW (l:List UInt8) (w:World):Calls Tryz.prog 53 #[sV l] w fun e w'=>e=.returned (valV 2 false 0 0 l)/\Ext w w':=by
 go_enter Tryz.func53,Tryz.ntmps53
 go_wp2
 exact bodyPost_ret (v:=valV 2 false 0 0 l) (by simp [results,Tryz.results53,go_sem]) rfl ⟨rfl,by first | exact x1 _ _ | exact xa (x1 _ _) _⟩
theorem zG0 (l:List UInt8) (w:World):Calls Tryz.prog 81 #[sV l] w fun e w'=>e=.returned (valV 2 false 0 0 l)/\Ext w w':=by
 go_enter Tryz.func81,Tryz.ntmps81
 go_wp2
 exact bodyPost_ret (v:=valV 2 false 0 0 l) (by simp [results,Tryz.results81,go_sem]) rfl ⟨rfl,by first | exact x1 _ _ | exact xa (x1 _ _) _⟩
theorem zDL (l:List UInt8) (w:World):Calls Tryz.prog 52 #[sV l] w fun e w'=>e=.returned (valV 4 false 0 0 l)/\Ext w w':=by
 go_enter Tryz.func52,Tryz.ntmps52
 go_wp2
 exact bodyPost_ret (v:=valV 4 false 0 0 l) (by simp [results,Tryz.results52,go_sem]) rfl ⟨rfl,by first | exact x1 _ _ | exact xa (x1 _ _) _⟩
theorem zB2 (l:List UInt8) (w:World):Calls Tryz.prog 69 #[sV l] w fun e w'=>e=.returned (valV 4 false 0 0 l)/\Ext w w':=by
 go_enter Tryz.func69,Tryz.ntmps69
 go_wp2
 exact bodyPost_ret (v:=valV 4 false 0 0 l) (by simp [results,Tryz.results69,go_sem]) rfl ⟨rfl,by first | exact x1 _ _ | exact xa (x1 _ _) _⟩
theorem zKB (n:Bool) (d x:Int) (w:World):Calls Tryz.prog 48 #[decV n d x] w fun e w'=>e=.returned (valV 1 n d x [])/\Ext w w':=by
 go_enter Tryz.func48,Tryz.ntmps48
 go_wp2
 exact bodyPost_ret (v:=valV 1 n d x []) (by simp [results,Tryz.results48,go_sem]) rfl ⟨rfl,by first | exact x1 _ _ | exact xa (x1 _ _) _⟩
theorem zEV (n:Bool) (d x:Int) (w:World):Calls Tryz.prog 84 #[decV n d x] w fun e w'=>e=.returned (valV 1 n d x [])/\Ext w w':=by
 go_enter Tryz.func84,Tryz.ntmps84
 go_wp2
 exact bodyPost_ret (v:=valV 1 n d x []) (by simp [results,Tryz.results84,go_sem]) rfl ⟨rfl,by first | exact x1 _ _ | exact xa (x1 _ _) _⟩
theorem zE8 (b:Bool) (w:World):Calls Tryz.prog 50 #[.bool b] w fun e w'=>e=.returned (zD9 b)/\Ext w w':=by
 cases b
 ·go_enter Tryz.func50,Tryz.ntmps50
  go_wp2
  exact bodyPost_ret (v:=valV 3 false 0 0 zAA) (by simp [results,Tryz.results50,go_sem,zAA]) rfl ⟨rfl,x1 _ _⟩
 ·go_enter Tryz.func50,Tryz.ntmps50
  go_wp2
  exact bodyPost_ret (v:=valV 3 false 0 0 zAX) (by simp [results,Tryz.results50,go_sem,zAX]) rfl ⟨rfl,x1 _ _⟩
theorem zFH (b:Bool) (w:World):Calls Tryz.prog 83 #[.bool b] w fun e w'=>e=.returned (zD9 b)/\Ext w w':=by
 cases b
 ·go_enter Tryz.func83,Tryz.ntmps83
  go_wp2
  exact bodyPost_ret (v:=valV 3 false 0 0 zAA) (by simp [results,Tryz.results83,go_sem,zAA]) rfl ⟨rfl,x1 _ _⟩
 ·go_enter Tryz.func83,Tryz.ntmps83
  go_wp2
  exact bodyPost_ret (v:=valV 3 false 0 0 zAX) (by simp [results,Tryz.results83,go_sem,zAX]) rfl ⟨rfl,x1 _ _⟩
theorem zCK {n:Bool} {d x:Int} {t:List UInt8} (h:zA4 1 n d x t=true):zA1 n d x=true/\t=[]:=by simpa [zA4] using h
theorem zC0 {k:Int} {n:Bool} {d x:Int} {t:List UInt8} (h:zA4 k n d x t=true) (h1:k ≠ 1):n=false/\d=0/\x=0:=by
 simp only [zA4,h1,if_false,Bool.and_eq_true] at h;have:=h.1;simpa [zCR,and_assoc] using this
theorem zCL {n:Bool} {d x:Int} {t:List UInt8} (h:zA4 0 n d x t=true):t=[]:=by simpa [zA4] using (show _/\_ by simpa [zA4] using h).2
end Go.Proofs.YtkadkfmidlhedaaGreatDoor

namespace Go.Proofs.YtkadkfmidlhedaaGreatDoor
def lv:List Int->Int
 | []=>0
 | x :: xs=>x+1000000000 * lv xs
def Lim (xs:List Int):Prop:=∀ x ∈ xs,0<=x/\x<1000000000
theorem Lim.nil:Lim []:=fun _ h=>by cases h
theorem Lim.cons {x:Int} {xs:List Int} (h0:0<=x) (h1:x<1000000000) (h:Lim xs):Lim (x :: xs):=fun y hy=>by
 rcases List.mem_cons.1 hy with rfl | hy
 ·exact ⟨h0,h1⟩
 ·exact h y hy
theorem Lim.head {x:Int} {xs:List Int} (h:Lim (x :: xs)):0<=x/\x<1000000000:=h x (by simp)
theorem Lim.tail {x:Int} {xs:List Int} (h:Lim (x :: xs)):Lim xs:=fun y hy=>h y (by simp [hy])
theorem Lim.app {xs ys:List Int} (h:Lim xs) (k:Lim ys):Lim (xs++ys):=fun y hy=>by
 rcases List.mem_append.1 hy with hy | hy
 ·exact h y hy
 ·exact k y hy
theorem Lim.take {xs:List Int} (h:Lim xs) (n:Nat):Lim (xs.take n):=fun y hy=>h y (List.mem_of_mem_take hy)
theorem Lim.drop {xs:List Int} (h:Lim xs) (n:Nat):Lim (xs.drop n):=fun y hy=>h y (List.mem_of_mem_drop hy)
theorem Lim.getD {xs:List Int} (h:Lim xs) (i:Nat):0<=xs.getD i 0/\xs.getD i 0<1000000000:=by
 by_cases hi:i<xs.length
 ·rw [List.getD_eq_getElem?_getD,List.getElem?_eq_getElem hi];exact h _ (List.getElem_mem hi)
 ·rw [List.getD_eq_getElem?_getD,List.getElem?_eq_none (by omega)];simp
theorem zCJ:∀ {xs:List Int},Lim xs->0<=lv xs
 | [],_=>by simp [lv]
 | x :: xs,h=>by
  have:=zCJ h.tail;have:=h.head;simp only [lv];omega
theorem zJF:∀ (xs ys:List Int),lv (xs++ys)=lv xs+1000000000 ^ xs.length * lv ys
 | [],ys=>by simp [lv]
 | x :: xs,ys=>by
  simp only [List.cons_append,lv,zJF xs ys,List.length_cons,Int.pow_succ];rw [Int.mul_add,Int.mul_comm (1000000000 ^ xs.length) 1000000000,<- Int.mul_assoc];omega
theorem zJE:∀ {xs:List Int},Lim xs->lv xs<1000000000 ^ xs.length
 | [],_=>by simp [lv]
 | x :: xs,h=>by
  have:=zJE h.tail;have:=h.head;simp only [lv,List.length_cons,Int.pow_succ];omega
theorem zDJ (n:Nat):(0:Int)<1000000000 ^ n:=Int.pow_pos (by decide)
theorem zMM {xs:List Int} (h:Lim xs) (hn:0<xs.length) (ht:xs.getD (xs.length - 1) 0 ≠ 0):1000000000 ^ (xs.length - 1)<=lv xs:=by
 obtain ⟨ys,y,rfl⟩:∃ ys y,xs=ys++[y]:=⟨xs.dropLast,xs.getLast (by intro e;simp [e] at hn),(List.dropLast_concat_getLast _).symm⟩;have h1:(ys++[y]).getD ((ys++[y]).length - 1) 0=y:=by simp
 rw [h1] at ht;have hy:=h y (by simp);have h0:=zCJ (fun z hz=>h z (by simp [hz]):Lim ys);rw [zJF];simp only [List.length_append,List.length_singleton,Nat.add_sub_cancel,lv];have hp:=zDJ ys.length;have:(1000000000:Int) ^ ys.length * 1<=1000000000 ^ ys.length * (y+1000000000 * 0):=Int.mul_le_mul_of_nonneg_left (by omega) (by omega);omega
theorem zE3 {xs:List Int} {k:Nat} (h:Lim xs) (ht:xs.length=0\/xs.getD (xs.length - 1) 0 ≠ 0) (hk:lv xs<1000000000 ^ k):xs.length<=k:=by
 rcases ht with ht | ht
 ·omega
 ·by_cases hn:xs.length<=k
  ·exact hn
  ·have h1:=zMM h (by omega) ht;have h2:(1000000000:Int) ^ k<=1000000000 ^ (xs.length - 1):=by
    have:=Nat.pow_le_pow_right (n:=1000000000) (by decide) (show k<=xs.length - 1 by omega);have h3:((1000000000 ^ k:Nat):Int)<=((1000000000 ^ (xs.length - 1):Nat):Int):=(by exact_mod_cast this);simpa using h3
   omega
theorem zCU (xs:List Int) (i:Nat) (h:i<xs.length):lv (xs.take (i+1))=lv (xs.take i)+1000000000 ^ i * xs.getD i 0:=by
 rw [List.take_succ_eq_append_getElem h,zJF];simp [lv,List.length_take,Nat.min_eq_left (Nat.le_of_lt h),h]
theorem zH0:∀ (xs:List Int) (i:Nat) (v:Int),i<xs.length->lv (xs.set i v)=lv xs+1000000000 ^ i * (v - xs.getD i 0)
 | [],_,_,h=>by simp at h
 | x :: xs,0,v,_=>by simp [lv];omega
 | x :: xs,i+1,v,h=>by
  have:=zH0 xs i v (by simpa using h);simp only [List.set_cons_succ,lv,this,List.getD_cons_succ,Int.pow_succ];rw [Int.mul_add,Int.mul_comm (1000000000 ^ i) 1000000000,Int.mul_assoc];omega
theorem zBS {xs:List Int} {i j:Nat} {v:Int} (h:i<xs.length):(xs.set i v).getD j 0=if j=i then v else xs.getD j 0:=by
 simp only [List.getD_eq_getElem?_getD,List.getElem?_set];by_cases e:i=j
 ·subst e;simp [h]
 ·rw [if_neg e,if_neg (fun h=>e h.symm)]
theorem Lim.set {xs:List Int} (h:Lim xs) (i:Nat) {v:Int} (h0:0<=v) (h1:v<1000000000):Lim (xs.set i v):=fun y hy=>by
 rcases List.mem_or_eq_of_mem_set hy with hy | rfl
 ·exact h y hy
 ·exact ⟨h0,h1⟩
theorem zAW (n:Nat):lv (List.replicate n 0)=0:=by
 induction n with
 | zero=>rfl
 | succ n ih=>simp [List.replicate_succ,lv,ih]
theorem Lim.zeros (n:Nat):Lim (List.replicate n 0):=fun y hy=>by
 rw [List.eq_of_mem_replicate hy];decide
theorem zAZ (n i:Nat):(List.replicate n (0:Int)).getD i 0=0:=by
 simp only [List.getD_eq_getElem?_getD,List.getElem?_replicate]
 split <;> rfl
end Go.Proofs.YtkadkfmidlhedaaGreatDoor

