import Derived.Test.YteliaeejooekbaaGreatDoorRows
import Derived.Test.YteliaeejooekbaaGreatDoorBase
import Derived.WalkKit
import Derived.ProofKit
import Derived.OpenShut
import Derived.WalkSmall
import Derived.Lib.SmallJoins
import Derived.Deep.DeepHandedRow
import Derived.Lib.LaidTab
import Derived.Deep.QuietTactic
import Derived.BigQuiet
import Derived.Deep.RegionWith
import Derived.Deep.RegionHeld3
import Derived.Deep.DeepCutAuto
import Derived.Laws.Bits64b
import Derived.ChangeSlices
import Derived.Laws.IdiomStrings
set_option maxRecDepth 8000
set_option maxHeartbeats 2000000
namespace Go.Proofs.YteliaeejooekbaaGreatDoor
open Go.ChangeShapes Go.WideShapes Go.ChangeAt Go.RowKit
theorem own:ownKnob Tryz.prog.godebug=none:=by kernel_rfl
theorem zNU:laidOutB Tryz.prog=true:=by kernel_rfl
theorem zGZ {H:Type} {enc:TypeId × Value->H} {P:Program} (hl:laidOutB P=true) {W W':World} (bel:Below W.heap.size W W') :
  ∀ {ns:List String} {gs:List (DataW H)} {q:List MemPlace},(∀ n ∈ ns,∀ g t,P.globalNamed n=some g->(P.globals[g]?).map (·.type)=some t->P.readableRec t=true/\t<P.types.size) ->
   (∀ x ∈ q,x.block<W.heap.size)->DataW.TrodVars enc P W (fun _=>true) ns gs q->DataW.TrodVars enc P W' (fun b=>decide (b<W.heap.size)) ns gs q
 | [],[],_,_,_,h=>h
 | [],_ :: _,_,_,_,h=>h.elim
 | _ :: _,[],_,_,_,h=>h.elim
 | n :: ns,d :: ds,q,hr,hlt,h=>by
  obtain ⟨g,t,cs,fuel,p,r,h1,h2,h3,h4,h5,rfl⟩:=h;obtain ⟨r1,r2⟩:=hr n (by simp) g t h1 h2;have hg:g<W.heap.size:=by
   unfold World.var? at h3;simp only [h1,Option.bind_some] at h3;by_cases hk:g<W.heap.size
   ·exact hk
   ·rw [Array.getElem?_eq_none (by omega)] at h3;cases h3
  refine ⟨g,t,cs,fuel,p,r,h1,h2,var?_below bel h1 hg h3,?_,?_,rfl⟩
  ·exact DataW.trod_stays (kids_book hl r1) (book_sized r1) (fun h=>by cases h) ⟨r2,book_self t⟩ h4 (fun x hx=>bel.same (hlt x (by simp [hx]))) (fun x hx=>by simpa using hlt x (by simp [hx]))
  ·exact zGZ hl bel (fun m hm=>hr m (by simp [hm])) (fun x hx=>hlt x (by simp [hx])) h5
theorem zAJ {H:Type} {enc:TypeId × Value->H} {P:Program} {w:World} {base:Nat} {sp:Nat->Bool} {held:Bool} {fuel:Nat} {t e:TypeId} {n:Nat} {cs:List Value} {ds:List (DataW H)} {p:List MemPlace}
  (ht:P.underlying t=some (.array n e)) (h:DataW.trod enc P w base sp held fuel t cs=some (.agg ds,p)) (i:Nat) (hi:i<n) (d:DataW H) (hd:ds[i]?=some d) :
  ∃ fuel' p',DataW.trod enc P w base sp held fuel' e ((cs.drop (i * P.cellsOf e)).take (P.cellsOf e))=some (d,p'):=by
 cases fuel with
 | zero=>simp [DataW.trod] at h
 | succ fuel =>
  simp only [DataW.trod,ht] at h
  split at h
  ·obtain ⟨xs,hm,hx⟩:=Option.map_eq_some_iff.1 h;obtain ⟨b,hb,hf⟩:=Lib.mapM_at hm i i (by simp [hi]);have e1:xs.map (·.1)=ds:=by
    have:=congrArg Prod.fst hx;simpa using this
   rw [<- e1,List.getElem?_map,hb] at hd;simp only [Option.map_some,Option.some.injEq] at hd;subst hd;exact ⟨fuel,b.2,hf⟩
  ·cases h
theorem zH0 {H:Type} {enc:TypeId × Value->H} {P:Program} {w:World} {base:Nat} {sp:Nat->Bool} {held:Bool} {fuel:Nat} {t:TypeId} {fs:Array Field} {cs:List Value} {ds:List (DataW H)} {p:List MemPlace}
  (ht:P.underlying t=some (.struct fs)) (h:DataW.trod enc P w base sp held fuel t cs=some (.agg ds,p)) (i:Nat) (f:Field) (hf:fs.toList[i]?=some f) (d:DataW H) (hd:ds[i]?=some d) :
  ∃ fuel' p',DataW.trod enc P w base sp held fuel' f.type ((cs.drop f.offset).take (P.cellsOf f.type))=some (d,p'):=by
 cases fuel with
 | zero=>simp [DataW.trod] at h
 | succ fuel =>
  simp only [DataW.trod,ht] at h
  split at h
  ·obtain ⟨xs,hm,hx⟩:=Option.map_eq_some_iff.1 h;obtain ⟨b,hb,hf'⟩:=Lib.mapM_at hm i f hf;have e1:xs.map (·.1)=ds:=by
    have:=congrArg Prod.fst hx;simpa using this
   rw [<- e1,List.getElem?_map,hb] at hd;simp only [Option.map_some,Option.some.injEq] at hd;subst hd;exact ⟨fuel,b.2,hf'⟩
  ·cases h
end Go.Proofs.YteliaeejooekbaaGreatDoor
namespace Go.Proofs.YteliaeejooekbaaGreatDoor
open Go.RowKit
structure Only (b:Nat) (w w':World):Prop where
 os:w'.os=w.os
 tape:w'.tape=w.tape
 output:w'.output=w.output
 size:w.heap.size<=w'.heap.size
 block:∀ k,k ≠ b->k<w.heap.size->w'.heap[k]?=w.heap[k]?
theorem Only.refl (b:Nat) (w:World):Only b w w:=⟨rfl,rfl,rfl,Nat.le_refl _,fun _ _ _=>rfl⟩
theorem Only.trans {b:Nat} {u v w:World} (h:Only b u v) (k:Only b v w):Only b u w:=
 ⟨k.os.trans h.os,k.tape.trans h.tape,k.output.trans h.output,Nat.le_trans h.size k.size,fun i hi hl=>(k.block i hi (Nat.lt_of_lt_of_le hl h.size)).trans (h.block i hi hl)⟩
theorem Only.of_ext {b:Nat} {w w':World} (h:Ext w w'):Only b w w':=⟨h.os,h.tape,h.output,h.size,fun k _ hl=>h.block k hl⟩
theorem Only.ext {b:Nat} {w0 w w':World} (x:Ext w0 w) (h:Only b w w') (hb:w0.heap.size<=b):Ext w0 w':=
 ⟨h.os.trans x.os,h.tape.trans x.tape,h.output.trans x.output,Nat.le_trans x.size h.size,fun k hk=>(h.block k (by omega) (Nat.lt_of_lt_of_le hk x.size)).trans (x.block k hk)⟩
theorem Only.drewN {b:Nat} {w w':World} (h:Only b w w') (n:Nat):Only b w (w'.drewN n):=⟨h.os,h.tape,h.output,h.size,h.block⟩
theorem Only.set {b i:Nat} {w w':World} (h:Only b w w') (u:Value):Only b w (w'.setCell ⟨b,i,none⟩ u):=
 h.trans ⟨rfl,rfl,rfl,by simp [World.setCell],fun k hk _=>Below.heap_setCell _ _ _ _ hk⟩
theorem Only.cell {b k o:Nat} {w w':World} (h:Only b w w') (hk:k ≠ b) {v:Value} (hc:w.cell? ⟨k,o,none⟩=some v):w'.cell? ⟨k,o,none⟩=some v:=by
 have hl:k<w.heap.size:=World.block_lt_of_cell? _ _ hc;unfold World.cell? at hc ⊢;rw [h.block k hk hl];exact hc
def zD1 (w:World) (base:Nat) (v:Value) (n:Nat):Prop:=
 ((∃ p cap,v=.slice p 0 cap)/\n=0)\/∃ (pb po cap:Nat),pb<base/\v=.slice (some ⟨pb,po,none⟩) n cap/\n<=cap/\∀ i,i<n->∃ x:Int,0<=x/\x<=255/\w.cell? ⟨pb,po+i,none⟩=some (.int .u8 x)
theorem zD1.only {w w':World} {base b n:Nat} {v:Value} (h:zD1 w base v n) (o:Only b w w') (hb:base<=b):zD1 w' base v n:=by
 rcases h with h | ⟨pb,po,cap,h1,h2,h3,h4⟩
 ·exact .inl h
 ·refine .inr ⟨pb,po,cap,h1,h2,h3,fun i hi=>?_⟩;obtain ⟨x,x0,x1,hx⟩:=h4 i hi;exact ⟨x,x0,x1,o.cell (by omega) hx⟩
def Cur (w:World) (b base K:Nat):Prop:=∃ (v:Value) (n:Nat) (a s:Int),Box3 w b v (iQ a) (.int .u64 s)/\zD1 w base v n/\n<=1048576/\0<=a/\a<=K/\0<=s/\s<18446744073709551616/\base<=b
theorem xdNc {a b:World} (h:Ext a b) (n:Nat):Ext a (b.drewN n):=⟨h.os,h.tape,h.output,h.size,h.block⟩
theorem zEC {b i j:Nat} (h:i ≠ j):(⟨b,i,none⟩:Addr) ≠ ⟨b,j,none⟩:=fun e=>h (by cases e;rfl)
theorem Box3.put1c {w:World} {b:Nat} {v0 v1 v2:Value} (h:Box3 w b v0 v1 v2) (u:Value):Box3 (w.setCell ⟨b,1,none⟩ u) b v0 u v2:=by
 obtain ⟨⟨q0,q1,q2⟩,f0,f1,f2⟩:=h;refine ⟨⟨?_,World.cell?_setCell_same _ _ _ q1,?_⟩,?_,?_,?_⟩
 ·rw [World.cell?_setCell_other _ _ _ _ (zEC (by decide))];exact q0
 ·rw [World.cell?_setCell_other _ _ _ _ (zEC (by decide))];exact q2
 ·simp [World.frozen?_setCell,f0]
 ·simp [World.frozen?_setCell,f1]
 ·simp [World.frozen?_setCell,f2]
theorem Box3.put2c {w:World} {b:Nat} {v0 v1 v2:Value} (h:Box3 w b v0 v1 v2) (u:Value):Box3 (w.setCell ⟨b,2,none⟩ u) b v0 v1 u:=by
 obtain ⟨⟨q0,q1,q2⟩,f0,f1,f2⟩:=h;refine ⟨⟨?_,?_,World.cell?_setCell_same _ _ _ q2⟩,?_,?_,?_⟩
 ·rw [World.cell?_setCell_other _ _ _ _ (zEC (by decide))];exact q0
 ·rw [World.cell?_setCell_other _ _ _ _ (zEC (by decide))];exact q1
 ·simp [World.frozen?_setCell,f0]
 ·simp [World.frozen?_setCell,f1]
 ·simp [World.frozen?_setCell,f2]
theorem zRJ (x:Int) (h0:0<=x) (h1:x<18446744073709551616):0<=bits BinOp.and IntKind.u64 x 255/\bits BinOp.and IntKind.u64 x 255<=255:=by
 obtain ⟨n,rfl⟩:∃ n:Nat,x=n:=⟨x.toNat,by omega⟩;have h:=bits_and_u64_nat n 255 (by omega) (by decide);have e:((255:Nat):Int)=255:=rfl;rw [e] at h;rw [h];have:=Nat.and_le_right (n:=n) (m:=255);omega
theorem zSC (x y:Int) (h0:0<=x) (h1:x<18446744073709551616) (k0:0<=y) (k1:y<18446744073709551616):0<=bits BinOp.or IntKind.u64 x y/\bits BinOp.or IntKind.u64 x y<18446744073709551616:=by
 obtain ⟨n,rfl⟩:∃ n:Nat,x=n:=⟨x.toNat,by omega⟩;obtain ⟨m,rfl⟩:∃ m:Nat,y=m:=⟨y.toNat,by omega⟩;rw [bits_or_u64_nat n m (by omega) (by omega)];have hx:n ||| m<2 ^ 64:=Nat.or_lt_two_pow (by omega) (by omega);omega
theorem Cur.drewN {w:World} {b base K:Nat} (h:Cur w b base K) (n:Nat):Cur (w.drewN n) b base K:=by
 obtain ⟨v,k,a,s,B,hc,r⟩:=h;exact ⟨v,k,a,s,B.l (xdNc (xr _) n),hc.only (b:=b) ((Only.refl b w).drewN n) r.2.2.2.2.2,r⟩
theorem zPW (b base K:Nat) (w:World) (h:Cur w b base K) (hK:K<=1000000000) :
  Calls Tryz.prog 68 #[.pointer (some ⟨b,0,none⟩)] w fun e w'=>∃ v:Int,e=.returned (iQ v)/\(0<=v/\v<=255)/\Cur w' b base (K+1)/\Only b w w':=by
 obtain ⟨v,n,a,s,B,hc,hn,a0,a1,s0,s1,hbb⟩:=h;have B':=B;obtain ⟨⟨q0,q1,q2⟩,g0,g1,g2⟩:=B';have wb:∀ x:Int,0<=IntKind.u64.wrap x/\IntKind.u64.wrap x<18446744073709551616:=fun x=>by rw [IntKind.wrap_u64];omega
 rcases hc with ⟨⟨np,ncap,rfl⟩,rfl⟩ | ⟨pb,po,cap,hpb,rfl,hnc,hx⟩
 ·have f1:decide (a<0)=false:=by simp;omega
  have f2:decide (a+1<=0)=false:=by simp;omega
  obtain ⟨S,hS⟩:=nm (IntKind.u64.wrap (IntKind.u64.wrap (IntKind.u64.wrap (s * 6364136223846793005))+1442695040888963407));have hS2:=wb (IntKind.u64.wrap (IntKind.u64.wrap (s * 6364136223846793005))+1442695040888963407);rw [hS] at hS2;have CU:Hid (∀ n,Cur (((w.drewN n).setCell ⟨b,1,none⟩ (iQ (a+1))).setCell ⟨b,2,none⟩ (.int .u64 S)) b base (K+1)):=fun n =>
   ⟨_,0,a+1,S,((B.l (xdNc (xr _) n)).put1c _).put2c _,.inl ⟨⟨_,_,rfl⟩,rfl⟩,by omega,by omega,by omega,hS2.1,hS2.2,hbb⟩
  have ON:Hid (∀ n,Only b w (((w.drewN n).setCell ⟨b,1,none⟩ (iQ (a+1))).setCell ⟨b,2,none⟩ (.int .u64 S))):=fun n=>(((Only.refl b w).drewN n).set _).set _;clear B wb;go_enter Tryz.func68,Tryz.ntmps68;go_wp2_with fail;go_quiet (fail);go_wp2_with fail;go_quiet (fail);go_wp2_with fail;obtain ⟨V,hV⟩:=nm (bits BinOp.and IntKind.u64 (S / 1099511627776) 255);have bv:=zRJ (S / 1099511627776) (by omega) (by omega);rw [hV] at bv;go_ret;refine ⟨V,?_,bv,(CU.out _).drewN _,(ON.out _).drewN _⟩;rw [hV];exact zAK (by unfold wrap64;omega)
 ·by_cases hlt:a<n
  ·obtain ⟨i,rfl⟩:∃ i:Nat,a=i:=⟨a.toNat,by omega⟩;obtain ⟨x,x0,x1,hxc⟩:=hx i (by omega);have f1:decide ((i:Int)<n)=true:=by simp;omega
   have f2:decide ((i:Int)+1<=n)=true:=by simp;omega
   have i1:(i:Int)<(n:Int):=by omega
   have wx:IntKind.u64.wrap x=x:=by rw [IntKind.wrap_u64];omega
   have wx2:IntKind.i64.wrap x=x:=by rw [IntKind.wrap_i64];omega
   obtain ⟨S,hS⟩:=nm (IntKind.u64.wrap (IntKind.u64.wrap (IntKind.u64.wrap (s * 6364136223846793005)+x)+1442695040888963407));have hS2:=wb (IntKind.u64.wrap (IntKind.u64.wrap (s * 6364136223846793005)+x)+1442695040888963407);rw [hS] at hS2;have CU:Hid (∀ w2:World,Only b w w2->Box3 w2 b (.slice (some ⟨pb,po,none⟩) n cap) (iQ i) (.int .u64 s)->Cur ((w2.setCell ⟨b,1,none⟩ (iQ ((i:Int)+1))).setCell ⟨b,2,none⟩ (.int .u64 S)) b base (K+1)/\Only b w ((w2.setCell ⟨b,1,none⟩ (iQ ((i:Int)+1))).setCell ⟨b,2,none⟩ (.int .u64 S))):=fun w2 o bx =>
    ⟨⟨_,n,(i:Int)+1,S,(bx.put1c _).put2c _,zD1.only (.inr ⟨pb,po,cap,hpb,rfl,hnc,hx⟩) ((o.set _).set _) hbb,hn,by omega,by omega,hS2.1,hS2.2,hbb⟩,(o.set _).set _⟩
   have BB:Hid (∀ k,Box3 (w.drewN k) b (.slice (some ⟨pb,po,none⟩) n cap) (iQ i) (.int .u64 s)):=fun k=>B.l (xdNc (xr _) k);clear B wb hx;go_enter Tryz.func68,Tryz.ntmps68;go_wp2_with fail;go_quiet (fail);go_wp2_with fail;go_quiet (fail);go_wp2_with fail;go_quiet (fail);go_wp2_with fail;go_ret;have cu:=fun a'=>CU.out (w.drewN a') ((Only.refl b w).drewN a') (BB.out a');exact ⟨x,rfl,⟨x0,x1⟩,(cu _).1.drewN _,(cu _).2.drewN _⟩
  ·have f1:decide (a<(n:Int))=false:=by simp;omega
   have f2:decide (a+1<=(n:Int))=false:=by simp;omega
   obtain ⟨S,hS⟩:=nm (IntKind.u64.wrap (IntKind.u64.wrap (IntKind.u64.wrap (s * 6364136223846793005))+1442695040888963407));have hS2:=wb (IntKind.u64.wrap (IntKind.u64.wrap (s * 6364136223846793005))+1442695040888963407);rw [hS] at hS2;have ON:Hid (∀ k,Only b w (((w.drewN k).setCell ⟨b,1,none⟩ (iQ (a+1))).setCell ⟨b,2,none⟩ (.int .u64 S))):=fun k=>(((Only.refl b w).drewN k).set _).set _;have CU:Hid (∀ k,Cur (((w.drewN k).setCell ⟨b,1,none⟩ (iQ (a+1))).setCell ⟨b,2,none⟩ (.int .u64 S)) b base (K+1)):=fun k =>
    ⟨_,n,a+1,S,((B.l (xdNc (xr _) k)).put1c _).put2c _,zD1.only (.inr ⟨pb,po,cap,hpb,rfl,hnc,hx⟩) (ON.out k) hbb,hn,by omega,by omega,hS2.1,hS2.2,hbb⟩
   clear B wb hx;go_enter Tryz.func68,Tryz.ntmps68;go_wp2_with fail;go_quiet (fail);go_wp2_with fail;go_quiet (fail);go_wp2_with fail;obtain ⟨V,hV⟩:=nm (bits BinOp.and IntKind.u64 (S / 1099511627776) 255);have bv:=zRJ (S / 1099511627776) (by omega) (by omega);rw [hV] at bv;go_ret;refine ⟨V,?_,bv,(CU.out _).drewN _,(ON.out _).drewN _⟩;rw [hV];exact zAK (by unfold wrap64;omega)
theorem Cur.ext {w w':World} {b base K:Nat} (h:Cur w b base K) (x:Ext w w'):Cur w' b base K:=by
 obtain ⟨v,k,a,s,B,hc,r⟩:=h;exact ⟨v,k,a,s,B.l x,hc.only (b:=b) (Only.of_ext x) r.2.2.2.2.2,r⟩
theorem Cur.lt {w:World} {b base K:Nat} (h:Cur w b base K):b<w.heap.size:=by
 obtain ⟨v,k,a,s,B,_⟩:=h;exact World.block_lt_of_cell? _ _ B.1.1
theorem Cur.more {w:World} {b base K K':Nat} (h:Cur w b base K) (hk:K<=K'):Cur w b base K':=by
 obtain ⟨v,k,a,s,B,hc,h1,h2,h3,r⟩:=h;exact ⟨v,k,a,s,B,hc,h1,h2,by omega,r⟩
theorem zB1 (b base K:Nat) (n:Int) (w:World) (h:Cur w b base K) (hK:K<=100000000) (n0:1<n) (n1:n<=100000000) :
  Calls Tryz.prog 40 #[.pointer (some ⟨b,0,none⟩),iQ n] w fun e w'=>∃ v:Int,e=.returned (iQ v)/\(0<=v/\v<n)/\Cur w' b base (K+2)/\Only b w w':=by
 have f1:decide (n<=1)=false:=by simp;omega
 by_cases h2:n > 200
 ·have f2:decide (n > 200)=true:=by simp;omega
  go_enter Tryz.func40,Tryz.ntmps40;go_wp2_with fail;refine (zPW b base K w h (by omega)).mono ?_;rintro e w1 ⟨x,rfl,⟨x0,x1⟩,c1,o1⟩;go_wp2_with fail;refine (zPW b base (K+1) w1 c1 (by omega)).mono ?_;rintro e w2 ⟨y,rfl,⟨y0,y1⟩,c2,o2⟩;have hm:(x * 256+y).tmod n=(x * 256+y) % n:=Int.tmod_eq_emod_of_nonneg (by omega);have b1:=Int.emod_nonneg (x * 256+y) (show n ≠ 0 by omega);have b2:=Int.emod_lt_of_pos (x * 256+y) (show 0<n by omega);go_wp2_with fail;go_ret;exact ⟨_,rfl,⟨b1,b2⟩,c2,o1.trans o2⟩
 ·have f2:decide (n > 200)=false:=by simp;omega
  go_enter Tryz.func40,Tryz.ntmps40;go_wp2_with fail;refine (zPW b base K w h (by omega)).mono ?_;rintro e w1 ⟨x,rfl,⟨x0,x1⟩,c1,o1⟩;have b1:=Int.emod_nonneg x (show n ≠ 0 by omega);have b2:=Int.emod_lt_of_pos x (show 0<n by omega);go_wp2_with fail;go_ret;exact ⟨_,rfl,⟨b1,b2⟩,c1.more (by omega),o1⟩
theorem oneC (b base K:Nat) (n:Int) (w:World) (h:Cur w b base K) (hK:K<=100000000) (n0:1<n) (n1:n<=100000000) :
  Calls Tryz.prog 41 #[.pointer (some ⟨b,0,none⟩),iQ n] w fun e w'=>∃ v:Bool,e=.returned (.bool v)/\Cur w' b base (K+2)/\Only b w w':=by
 go_enter Tryz.func41,Tryz.ntmps41;go_wp2_with fail;refine (zB1 b base K n w h hK n0 n1).mono ?_;rintro e w1 ⟨x,rfl,_,c1,o1⟩;go_wp2_with fail;go_ret;exact ⟨_,rfl,c1,o1⟩
theorem zVR (b base K:Nat) (w:World) (h:Cur w b base K) (hK:K<=10000000) :
  Calls Tryz.prog 106 #[.pointer (some ⟨b,0,none⟩)] w fun e w'=>∃ v:Int,e=.returned (.int .u64 v)/\(0<=v/\v<18446744073709551616)/\Cur w' b base (K+8)/\Only b w w':=by
 go_enter Tryz.func106,Tryz.ntmps106;go_wp2_with fail;go_loopw [3,4] (fun a i wr=>∃ (k:Nat) (x:Int),k<=8/\i=.int .i64 k/\a=.int .u64 x/\0<=x/\x<18446744073709551616/\Cur wr b base (K+k)/\Only b w wr) (fun _ i _=>8 - (intOf i).toNat)
 case atStart=>exact ⟨0,0,by omega,rfl,rfl,by omega,by omega,h,Only.refl b w⟩
 case round =>
  obtain ⟨k,x,hk,rfl,rfl,x0,x1,c,o⟩:=hrel;by_cases hlt:k<8
  ·have hlt':(k:Int)<8:=by omega
   go_wp2_with fail;refine (zPW b base (K+k) wr c (by omega)).mono ?_;rintro e w2 ⟨y,rfl,⟨y0,y1⟩,c2,o2⟩;have wy:IntKind.u64.wrap y=y:=by rw [IntKind.wrap_u64];omega
   have wz:0<=IntKind.u64.wrap (x * 256)/\IntKind.u64.wrap (x * 256)<18446744073709551616:=by rw [IntKind.wrap_u64];omega
   have oz:=zSC (IntKind.u64.wrap (x * 256)) y wz.1 wz.2 y0 (by omega);have HO:Hid _:=oz;clear wz oz;go_wp2_with fail;go_roundw
   case rel=>exact ⟨k+1,_,by omega,by go_num,rfl,HO.out.1,HO.out.2,c2,o.trans o2⟩
   case measure=>simp [intOf];omega
  ·obtain rfl:k=8:=by omega
   go_wp2_with fail;go_ret;exact ⟨x,rfl,⟨x0,x1⟩,c,o⟩
end Go.Proofs.YteliaeejooekbaaGreatDoor
namespace Go.Proofs.YteliaeejooekbaaGreatDoor
open Go.ChangeShapes Go.WideShapes Go.ChangeAt Go.RowKit
theorem zN0 {H:Type} {enc:TypeId × Value->H} {P:Program} {t e:TypeId} (ht:P.underlying t=some (.slice e)) (he:P.underlying e=some (.int .u8)) (hc:P.cellsOf e=1) {W:World} {base:Nat} {v:Value} {d:DataW H} {p:List MemPlace}
  (hv:Value.okWide P W .any base t v) (h:DataW.Trod enc P W 0 (fun _=>true) true t v d p):∃ n,zD1 W W.heap.size v n:=by
 obtain ⟨a0,len,cap,rfl⟩:=okWide_slice ht hv;obtain ⟨fuel,hf⟩:=h
 rcases open_ints ht he hc hf with ⟨hcs,hx⟩ | ⟨a,len',cap',zs,hcs,_,hl,hm,hz,hx,hcell,hwz⟩
 ·simp [Value.cells] at hcs;obtain ⟨rfl,rfl,rfl⟩:=hcs;exact ⟨0,.inl ⟨⟨_,_,rfl⟩,rfl⟩⟩
 ·simp [Value.cells] at hcs;obtain ⟨rfl,rfl,rfl⟩:=hcs;simp only [if_true] at hz;by_cases h0:len=0
  ·subst h0;exact ⟨0,.inl ⟨⟨_,_,rfl⟩,rfl⟩⟩
  ·obtain ⟨pb,po,sp⟩:=a;have hc0:=hcell 0 (by omega);have hsp:sp=none:=by simpa [Addr.add] using World.cell?_spot hc0
   subst hsp;have hlt:pb<W.heap.size:=by
    have:=World.block_lt_of_cell? _ _ hc0;simpa [Addr.add] using this
   refine ⟨len,.inr ⟨pb,po,cap,hlt,rfl,hl,fun i hi=>?_⟩⟩;have hci:=hcell i (by omega);have hi':i<zs.length:=by omega
   have hmem:zs.getD i 0 ∈ zs:=by
    rw [List.getD,List.getElem?_eq_getElem hi',Option.getD_some];exact List.getElem_mem hi'
   have hw:=hwz _ hmem;have b1:IntKind.u8.min=0:=rfl;have b2:IntKind.u8.max=255:=rfl;simp only [Lit.wf,Bool.and_eq_true,decide_eq_true_eq] at hw;refine ⟨zs.getD i 0,by omega,by omega,?_⟩;rw [<- hci];unfold Addr.add
   split
   ·next e=>subst e;rfl
   ·rfl
end Go.Proofs.YteliaeejooekbaaGreatDoor
namespace Go.Proofs.YteliaeejooekbaaGreatDoor
open Go.RowKit
def Tens (w:World):Prop:=∀ i:Nat,i<20->w.cell? ⟨0,i,none⟩=some (.int .u64 ((10 ^ i:Nat):Int))
theorem Tens.l {w w1:World} (h:Tens w) (hb:Ext w w1):Tens w1:=fun i hi=>cell_later hb (h i hi)
theorem Tens.at15 {w:World} (h:Tens w):w.cell? ⟨0,15,none⟩=some (.int .u64 1000000000000000):=h 15 (by decide)
end Go.Proofs.YteliaeejooekbaaGreatDoor
namespace Go.Proofs.YteliaeejooekbaaGreatDoor
open Go.ChangeShapes Go.WideShapes Go.ChangeAt Go.RowKit
theorem zT1:Tryz.prog.globalNamed "loop.example/g00025/impl.tens" = some 0:=by kernel_rfl
theorem zIW:(Tryz.prog.globals[0]?).map (·.type)=some 192:=by kernel_rfl
theorem zRR {rest:List (String × DataW Unit)} {W:World} (h:laidMet Tryz.prog (("loop.example/g00025/impl.tens", Rows.laid_loop_example_g00025_impl_tens) :: rest) W):Tens W:=by
 have t:Lib.TabIs Tryz.prog W "loop.example/g00025/impl.tens" .u64 [1,10,100,1000,10000,100000,1000000,10000000,100000000,1000000000,10000000000,100000000000,1000000000000,10000000000000,100000000000000,1000000000000000,10000000000000000,100000000000000000,1000000000000000000,10000000000000000000]:=
  Lib.tabIs_of_head (rest:=rest) zT1 zIW Tryz.underlying192 Tryz.underlying55 (by kernel_rfl) (by kernel_rfl) h
 intro i hi;have e:∀ i:Nat,i<20->([1,10,100,1000,10000,100000,1000000,10000000,100000000,1000000000,10000000000,100000000000,1000000000000,10000000000000,100000000000000,1000000000000000,10000000000000000,100000000000000000,1000000000000000000,10000000000000000000]:List Int).getD i 0=((10 ^ i:Nat):Int):=by decide +kernel
 rw [<- e i hi];exact t.cell zT1 i hi
theorem zGX:∀ g t,Tryz.prog.globalNamed "loop.example/g00025/impl.tens" = some g->(Tryz.prog.globals[g]?).map (·.type)=some t->Tryz.prog.readableRec t=true/\t<Tryz.prog.types.size:=by
 intro g t hg ht;obtain rfl:=Option.some.inj (zT1.symm.trans hg);obtain rfl:=Option.some.inj (zIW.symm.trans ht);exact ⟨by kernel_rfl,of_decide_eq_true (by kernel_rfl)⟩
end Go.Proofs.YteliaeejooekbaaGreatDoor
namespace Go.Proofs.YteliaeejooekbaaGreatDoor
open Go.RowKit
def Box8 (w:World) (b:Nat) (v0 v1 v2 v3 v4 v5 v6 v7:Value):Prop:=
 ((w.cell? ⟨b,0,none⟩=some v0/\w.cell? ⟨b,1,none⟩=some v1/\w.cell? ⟨b,2,none⟩=some v2/\w.cell? ⟨b,3,none⟩=some v3)/\w.cell? ⟨b,4,none⟩=some v4/\w.cell? ⟨b,5,none⟩=some v5/\w.cell? ⟨b,6,none⟩=some v6/\w.cell? ⟨b,7,none⟩=some v7) /\
 (w.frozen? ⟨b,0,none⟩=false/\w.frozen? ⟨b,1,none⟩=false/\w.frozen? ⟨b,2,none⟩=false/\w.frozen? ⟨b,3,none⟩=false)/\w.frozen? ⟨b,4,none⟩=false/\w.frozen? ⟨b,5,none⟩=false/\w.frozen? ⟨b,6,none⟩=false/\w.frozen? ⟨b,7,none⟩=false
theorem Box8.made (w:World) (v0 v1 v2 v3 v4 v5 v6 v7:Value) (t:TypeId):Box8 (w.alloc (.cells #[v0,v1,v2,v3,v4,v5,v6,v7] t)) w.heap.size v0 v1 v2 v3 v4 v5 v6 v7:=by
 refine ⟨⟨⟨?_,?_,?_,?_⟩,?_,?_,?_,?_⟩,⟨?_,?_,?_,?_⟩,?_,?_,?_,?_⟩ <;> simp [go_sem]
def Vec (w:World) (b:Nat) (l:List Value):Prop:=∀ i v,l[i]?=some v->w.cell? ⟨b,i,none⟩=some v/\w.frozen? ⟨b,i,none⟩=false
theorem vC2 {w:World} {b:Nat} {v0 v1:Value} {l:List Value} (h:Vec w b (v0 :: v1 :: l)):w.cell? ⟨b,0,none⟩=some v0/\w.cell? ⟨b,1,none⟩=some v1:=
 ⟨(h 0 _ rfl).1,(h 1 _ rfl).1⟩
theorem vC4 {w:World} {b:Nat} {v0 v1 v2 v3:Value} {l:List Value} (h:Vec w b (v0 :: v1 :: v2 :: v3 :: l)):w.cell? ⟨b,0,none⟩=some v0/\w.cell? ⟨b,1,none⟩=some v1/\w.cell? ⟨b,2,none⟩=some v2/\w.cell? ⟨b,3,none⟩=some v3:=
 ⟨(h 0 _ rfl).1,(h 1 _ rfl).1,(h 2 _ rfl).1,(h 3 _ rfl).1⟩
theorem vC8 {w:World} {b:Nat} {v0 v1 v2 v3 v4 v5 v6 v7:Value} {l:List Value} (h:Vec w b (v0 :: v1 :: v2 :: v3 :: v4 :: v5 :: v6 :: v7 :: l)):w.cell? ⟨b,0,none⟩=some v0/\w.cell? ⟨b,1,none⟩=some v1/\w.cell? ⟨b,2,none⟩=some v2/\w.cell? ⟨b,3,none⟩=some v3/\w.cell? ⟨b,4,none⟩=some v4/\w.cell? ⟨b,5,none⟩=some v5/\w.cell? ⟨b,6,none⟩=some v6/\w.cell? ⟨b,7,none⟩=some v7:=
 ⟨(h 0 _ rfl).1,(h 1 _ rfl).1,(h 2 _ rfl).1,(h 3 _ rfl).1,(h 4 _ rfl).1,(h 5 _ rfl).1,(h 6 _ rfl).1,(h 7 _ rfl).1⟩
theorem vF8 {w:World} {b:Nat} {v0 v1 v2 v3 v4 v5 v6 v7:Value} {l:List Value} (h:Vec w b (v0 :: v1 :: v2 :: v3 :: v4 :: v5 :: v6 :: v7 :: l)):w.frozen? ⟨b,0,none⟩=false/\w.frozen? ⟨b,1,none⟩=false/\w.frozen? ⟨b,2,none⟩=false/\w.frozen? ⟨b,3,none⟩=false/\w.frozen? ⟨b,4,none⟩=false/\w.frozen? ⟨b,5,none⟩=false/\w.frozen? ⟨b,6,none⟩=false/\w.frozen? ⟨b,7,none⟩=false:=
 ⟨(h 0 _ rfl).2,(h 1 _ rfl).2,(h 2 _ rfl).2,(h 3 _ rfl).2,(h 4 _ rfl).2,(h 5 _ rfl).2,(h 6 _ rfl).2,(h 7 _ rfl).2⟩
theorem vC10 {w:World} {b:Nat} {v0 v1 v2 v3 v4 v5 v6 v7 v8 v9:Value} {l:List Value} (h:Vec w b (v0 :: v1 :: v2 :: v3 :: v4 :: v5 :: v6 :: v7 :: v8 :: v9 :: l)):w.cell? ⟨b,0,none⟩=some v0/\w.cell? ⟨b,1,none⟩=some v1/\w.cell? ⟨b,2,none⟩=some v2/\w.cell? ⟨b,3,none⟩=some v3/\w.cell? ⟨b,4,none⟩=some v4/\w.cell? ⟨b,5,none⟩=some v5/\w.cell? ⟨b,6,none⟩=some v6/\w.cell? ⟨b,7,none⟩=some v7/\w.cell? ⟨b,8,none⟩=some v8/\w.cell? ⟨b,9,none⟩=some v9:=
 ⟨(h 0 _ rfl).1,(h 1 _ rfl).1,(h 2 _ rfl).1,(h 3 _ rfl).1,(h 4 _ rfl).1,(h 5 _ rfl).1,(h 6 _ rfl).1,(h 7 _ rfl).1,(h 8 _ rfl).1,(h 9 _ rfl).1⟩
theorem vC14 {w:World} {b:Nat} {v0 v1 v2 v3 v4 v5 v6 v7 v8 v9 v10 v11 v12 v13:Value} {l:List Value} (h:Vec w b (v0 :: v1 :: v2 :: v3 :: v4 :: v5 :: v6 :: v7 :: v8 :: v9 :: v10 :: v11 :: v12 :: v13 :: l)):w.cell? ⟨b,0,none⟩=some v0/\w.cell? ⟨b,1,none⟩=some v1/\w.cell? ⟨b,2,none⟩=some v2/\w.cell? ⟨b,3,none⟩=some v3/\w.cell? ⟨b,4,none⟩=some v4/\w.cell? ⟨b,5,none⟩=some v5/\w.cell? ⟨b,6,none⟩=some v6/\w.cell? ⟨b,7,none⟩=some v7/\w.cell? ⟨b,8,none⟩=some v8/\w.cell? ⟨b,9,none⟩=some v9/\w.cell? ⟨b,10,none⟩=some v10/\w.cell? ⟨b,11,none⟩=some v11/\w.cell? ⟨b,12,none⟩=some v12/\w.cell? ⟨b,13,none⟩=some v13:=
 ⟨(h 0 _ rfl).1,(h 1 _ rfl).1,(h 2 _ rfl).1,(h 3 _ rfl).1,(h 4 _ rfl).1,(h 5 _ rfl).1,(h 6 _ rfl).1,(h 7 _ rfl).1,(h 8 _ rfl).1,(h 9 _ rfl).1,(h 10 _ rfl).1,(h 11 _ rfl).1,(h 12 _ rfl).1,(h 13 _ rfl).1⟩
theorem vC15 {w:World} {b:Nat} {v0 v1 v2 v3 v4 v5 v6 v7 v8 v9 v10 v11 v12 v13 v14:Value} {l:List Value} (h:Vec w b (v0 :: v1 :: v2 :: v3 :: v4 :: v5 :: v6 :: v7 :: v8 :: v9 :: v10 :: v11 :: v12 :: v13 :: v14 :: l)):w.cell? ⟨b,0,none⟩=some v0/\w.cell? ⟨b,1,none⟩=some v1/\w.cell? ⟨b,2,none⟩=some v2/\w.cell? ⟨b,3,none⟩=some v3/\w.cell? ⟨b,4,none⟩=some v4/\w.cell? ⟨b,5,none⟩=some v5/\w.cell? ⟨b,6,none⟩=some v6/\w.cell? ⟨b,7,none⟩=some v7/\w.cell? ⟨b,8,none⟩=some v8/\w.cell? ⟨b,9,none⟩=some v9/\w.cell? ⟨b,10,none⟩=some v10/\w.cell? ⟨b,11,none⟩=some v11/\w.cell? ⟨b,12,none⟩=some v12/\w.cell? ⟨b,13,none⟩=some v13/\w.cell? ⟨b,14,none⟩=some v14:=
 ⟨(h 0 _ rfl).1,(h 1 _ rfl).1,(h 2 _ rfl).1,(h 3 _ rfl).1,(h 4 _ rfl).1,(h 5 _ rfl).1,(h 6 _ rfl).1,(h 7 _ rfl).1,(h 8 _ rfl).1,(h 9 _ rfl).1,(h 10 _ rfl).1,(h 11 _ rfl).1,(h 12 _ rfl).1,(h 13 _ rfl).1,(h 14 _ rfl).1⟩
theorem Vec.l {w w1:World} {b:Nat} {l:List Value} (h:Vec w b l) (hb:Ext w w1):Vec w1 b l:=fun i v hi=>⟨cell_later hb (h i v hi).1,zB0 hb (h i v hi).1 (h i v hi).2⟩
theorem Vec.far {w:World} {b:Nat} {l:List Value} (h:Vec w b l) {p:Addr} (hp:p.block ≠ b) (u:Value):Vec (w.setCell p u) b l:=fun i v hi=>by
 refine ⟨?_,by rw [World.frozen?_setCell];exact (h i v hi).2⟩;rw [World.cell?_setCell_other _ _ _ _ (fun e=>hp (congrArg Addr.block e))];exact (h i v hi).1
theorem Vec.put {w:World} {b:Nat} {l:List Value} (h:Vec w b l) (i:Nat) (hi:i<l.length) (u:Value):Vec (w.setCell ⟨b,i,none⟩ u) b (l.set i u):=fun j v hj=>by
 refine ⟨?_,?_⟩
 ·by_cases e:j=i
  ·subst e;rw [List.getElem?_set_self hi] at hj;cases hj;exact World.cell?_setCell_same' _ _ _ (by rw [(h j l[j] (List.getElem?_eq_getElem hi)).1];rfl)
  ·rw [List.getElem?_set_ne (fun q=>e q.symm)] at hj;rw [World.cell?_setCell_other _ _ _ _ (fun q=>e (congrArg Addr.off q).symm)];exact (h j v hj).1
 ·rw [World.frozen?_setCell];by_cases e:j=i
  ·subst e;exact (h j l[j] (List.getElem?_eq_getElem hi)).2
  ·rw [List.getElem?_set_ne (fun q=>e q.symm)] at hj;exact (h j v hj).2
theorem Vec.made8 (w:World) (v0 v1 v2 v3 v4 v5 v6 v7:Value) (t:TypeId):Vec (w.alloc (.cells #[v0,v1,v2,v3,v4,v5,v6,v7] t)) w.heap.size [v0,v1,v2,v3,v4,v5,v6,v7]:=by
 obtain ⟨⟨⟨a0,a1,a2,a3⟩,a4,a5,a6,a7⟩,⟨f0,f1,f2,f3⟩,f4,f5,f6,f7⟩:=Box8.made w v0 v1 v2 v3 v4 v5 v6 v7 t;intro i v hi
 match i,hi with
 | 0,hi=>cases hi;exact ⟨a0,f0⟩
 | 1,hi=>cases hi;exact ⟨a1,f1⟩
 | 2,hi=>cases hi;exact ⟨a2,f2⟩
 | 3,hi=>cases hi;exact ⟨a3,f3⟩
 | 4,hi=>cases hi;exact ⟨a4,f4⟩
 | 5,hi=>cases hi;exact ⟨a5,f5⟩
 | 6,hi=>cases hi;exact ⟨a6,f6⟩
 | 7,hi=>cases hi;exact ⟨a7,f7⟩
theorem Vec.made4 (w:World) (v0 v1 v2 v3:Value) (t:TypeId):Vec (w.alloc (.cells #[v0,v1,v2,v3] t)) w.heap.size [v0,v1,v2,v3]:=by
 obtain ⟨⟨a0,a1,a2,a3⟩,f0,f1,f2,f3⟩:=Box4.made w v0 v1 v2 v3 t;intro i v hi
 match i,hi with
 | 0,hi=>cases hi;exact ⟨a0,f0⟩
 | 1,hi=>cases hi;exact ⟨a1,f1⟩
 | 2,hi=>cases hi;exact ⟨a2,f2⟩
 | 3,hi=>cases hi;exact ⟨a3,f3⟩
theorem Vec.box8 {w:World} {b:Nat} {v0 v1 v2 v3 v4 v5 v6 v7:Value} (h:Vec w b [v0,v1,v2,v3,v4,v5,v6,v7]):Box8 w b v0 v1 v2 v3 v4 v5 v6 v7:=
 ⟨⟨⟨(h 0 _ rfl).1,(h 1 _ rfl).1,(h 2 _ rfl).1,(h 3 _ rfl).1⟩,(h 4 _ rfl).1,(h 5 _ rfl).1,(h 6 _ rfl).1,(h 7 _ rfl).1⟩,⟨(h 0 _ rfl).2,(h 1 _ rfl).2,(h 2 _ rfl).2,(h 3 _ rfl).2⟩,(h 4 _ rfl).2,(h 5 _ rfl).2,(h 6 _ rfl).2,(h 7 _ rfl).2⟩
theorem Vec.box4 {w:World} {b:Nat} {v0 v1 v2 v3:Value} (h:Vec w b [v0,v1,v2,v3]):Box4 w b v0 v1 v2 v3:=
 ⟨⟨(h 0 _ rfl).1,(h 1 _ rfl).1,(h 2 _ rfl).1,(h 3 _ rfl).1⟩,(h 0 _ rfl).2,(h 1 _ rfl).2,(h 2 _ rfl).2,(h 3 _ rfl).2⟩
def set4 (w:World) (b o:Nat) (u0 u1 u2 u3:Value):World:=(((w.setCell ⟨b,o,none⟩ u0).setCell ⟨b,o+1,none⟩ u1).setCell ⟨b,o+2,none⟩ u2).setCell ⟨b,o+3,none⟩ u3
theorem Vec.far4 {w:World} {b k o:Nat} {l:List Value} (h:Vec w b l) (hk:k ≠ b) (u0 u1 u2 u3:Value):Vec (set4 w k o u0 u1 u2 u3) b l:=
 (((h.far hk u0).far hk u1).far hk u2).far hk u3
theorem Ext.set4 {a w:World} {b o:Nat} (h:Ext a w) (hb:a.heap.size<=b) (u0 u1 u2 u3:Value):Ext a (set4 w b o u0 u1 u2 u3):=
 xset (xset (xset (xset h hb u0) hb u1) hb u2) hb u3
theorem Vec.put03 {w:World} {b:Nat} {v0 v1 v2 v3 v4 v5 v6 v7:Value} (h:Vec w b [v0,v1,v2,v3,v4,v5,v6,v7]) (u0 u1 u2 u3:Value):Vec (set4 w b 0 u0 u1 u2 u3) b [u0,u1,u2,u3,v4,v5,v6,v7]:=
 (((h.put 0 (by simp) u0).put 1 (by simp) u1).put 2 (by simp) u2).put 3 (by simp) u3
theorem Vec.put47 {w:World} {b:Nat} {v0 v1 v2 v3 v4 v5 v6 v7:Value} (h:Vec w b [v0,v1,v2,v3,v4,v5,v6,v7]) (u0 u1 u2 u3:Value):Vec (set4 w b 4 u0 u1 u2 u3) b [v0,v1,v2,v3,u0,u1,u2,u3]:=
 (((h.put 4 (by simp) u0).put 5 (by simp) u1).put 6 (by simp) u2).put 7 (by simp) u3
theorem Vec.put4 {w:World} {b:Nat} {v0 v1 v2 v3:Value} (h:Vec w b [v0,v1,v2,v3]) (u0 u1 u2 u3:Value):Vec (set4 w b 0 u0 u1 u2 u3) b [u0,u1,u2,u3]:=
 (((h.put 0 (by simp) u0).put 1 (by simp) u1).put 2 (by simp) u2).put 3 (by simp) u3
def set8 (w:World) (b:Nat) (u0 u1 u2 u3 u4 u5 u6 u7:Value):World:=set4 (set4 w b 0 u0 u1 u2 u3) b 4 u4 u5 u6 u7
theorem Vec.put8 {w:World} {b:Nat} {v0 v1 v2 v3 v4 v5 v6 v7:Value} (h:Vec w b [v0,v1,v2,v3,v4,v5,v6,v7]) (u0 u1 u2 u3 u4 u5 u6 u7:Value):Vec (set8 w b u0 u1 u2 u3 u4 u5 u6 u7) b [u0,u1,u2,u3,u4,u5,u6,u7]:=
 (h.put03 u0 u1 u2 u3).put47 u4 u5 u6 u7
theorem Vec.far8 {w:World} {b k:Nat} {l:List Value} (h:Vec w b l) (hk:k ≠ b) (u0 u1 u2 u3 u4 u5 u6 u7:Value):Vec (set8 w k u0 u1 u2 u3 u4 u5 u6 u7) b l:=(h.far4 hk _ _ _ _).far4 hk _ _ _ _
theorem Ext.set8 {a w:World} {b:Nat} (h:Ext a w) (hb:a.heap.size<=b) (u0 u1 u2 u3 u4 u5 u6 u7:Value):Ext a (set8 w b u0 u1 u2 u3 u4 u5 u6 u7):=Ext.set4 (Ext.set4 h hb _ _ _ _) hb _ _ _ _
theorem zBJ {s:ByteArray} {l:List UInt8} (h:s.data.toList=l):s.size=l.length:=by
 rw [<- h,Array.length_toList];rfl
theorem zKZ {l:List UInt8} {i:Nat} (h:i<l.length):l.drop i=l.getD i 0 :: l.drop (i+1):=by
 rw [List.drop_eq_getElem_cons h];simp [h]
theorem zB8 {s:ByteArray} {l:List UInt8} (h:s.data.toList=l) {p:Nat} (hp:p<s.size):(s[p]'hp)=l.getD p 0:=by
 subst h;simp only [ByteArray.getElem_eq_getElem_data];have hp':p<s.data.size:=hp;simp only [List.getD,Array.getElem?_toList];rw [Array.getElem?_eq_getElem hp'];rfl
theorem zDJ {l:List UInt8} {i:Nat} (h:i<l.length):l.take (i+1)=l.take i++[l.getD i 0]:=by
 rw [List.take_add_one];simp [h]
abbrev sV (l:List UInt8):Value:=.string ⟨l.toArray⟩
theorem zA5 (w:World) (l:List Value) (t:TypeId):Vec (w.alloc (.cells l.toArray t)) w.heap.size l:=by
 intro i v hi;have hb:=heap_alloc_new w (.cells l.toArray t);refine ⟨?_,?_⟩
 ·unfold World.cell?;simp only [hb];simpa using hi
 ·unfold World.frozen?;simp only [hb];simp
theorem zAD (w:World) (l:List Value) (t:TypeId):∃ wa,w.alloc (.cells l.toArray t)=wa/\Ext w wa/\Vec wa w.heap.size l/\wa.heap.size=w.heap.size+1:=
 ⟨_,rfl,x1 w _,zA5 w l t,World.size_alloc _ _⟩
def upC (c:UInt8):UInt8:=if 97<=c.toNat/\c.toNat<=122 then UInt8.ofNat (c.toNat - 32) else c
theorem zI0 {c:UInt8} (h:97<=c.toNat/\c.toNat<=122):((upC c).toNat:Int)=(c.toNat:Int) - 32:=by
 unfold upC;rw [if_pos h,UInt8.toNat_ofNat'];omega
theorem zI1 {c:UInt8} (h:¬ (97<=c.toNat/\c.toNat<=122)):upC c=c:=by unfold upC;rw [if_neg h]
def encB (l:List UInt8):List Value:=l.map fun c=>Value.int .u8 (c.toNat:Int)
theorem zGL (l:List UInt8):(encB l).length=l.length:=by simp [encB]
theorem zJW {l:List UInt8} {i:Nat} {c:UInt8} (h:l[i]?=some c):(encB l)[i]?=some (.int .u8 (c.toNat:Int)):=by simp [encB,h]
def upK (l:List UInt8) (k:Nat):List UInt8:=(l.take k).map upC++l.drop k
theorem zE8 (l:List UInt8) (k:Nat):(upK l k).length=l.length:=by simp [upK];omega
theorem zK7 (l:List UInt8):upK l 0=l:=by simp [upK]
theorem zMD (l:List UInt8):upK l l.length=l.map upC:=by simp [upK]
theorem zK8 {l:List UInt8} {k:Nat} {c:UInt8} (h:l[k]?=some c):(upK l k)[k]?=some c:=by
 have hk:k<l.length:=(List.getElem?_eq_some_iff.1 h).1;unfold upK;rw [List.getElem?_append_right (by simp;omega)];simp only [List.length_map,List.length_take,List.getElem?_drop];rw [show k+(k - min k l.length)=k by omega];exact h
theorem zFR {l:List UInt8} {k:Nat} {c:UInt8} (h:l[k]?=some c):upK l (k+1)=(upK l k).set k (upC c):=by
 have hk:k<l.length:=(List.getElem?_eq_some_iff.1 h).1;apply List.ext_getElem?;intro i;rw [List.getElem?_set];unfold upK;by_cases e:k=i
 ·subst e;rw [if_pos rfl,List.getElem?_append_left (by simp;omega)];rw [if_pos (by simp;omega)];simp [h]
 ·rw [if_neg e]
  rcases Nat.lt_or_ge i k with hi | hi
  ·rw [List.getElem?_append_left (by simp;omega),List.getElem?_append_left (by simp;omega)];simp [hi,Nat.lt_succ_of_lt hi]
  ·rw [List.getElem?_append_right (by simp;omega),List.getElem?_append_right (by simp;omega)];simp only [List.length_map,List.length_take,List.getElem?_drop]
   congr 1
   omega
theorem zHB (l:List UInt8) (w:World):∃ cap w',(convert 9 22 (sV l)).run Tryz.prog w=.ok (.slice (some ⟨w.heap.size,0,none⟩) l.length cap) w'/\l.length<=cap/\Ext w w'/\Vec w' w.heap.size (encB l):=by
 have hcv:=run_bytes_of_string (P:=Tryz.prog) w 9 22 5 ⟨l.toArray⟩ Tryz.underlying9 Tryz.underlying22 Tryz.underlying5;refine ⟨_,_,hcv,grownCap_ge _ _ _ _,xa (xd (xr _)) _,fun j u hj=>?_⟩;have hjl:j<l.length:=by
  have:=(List.getElem?_eq_some_iff.1 hj).1;simpa [encB] using this
 obtain ⟨C,hC⟩:=nm (grownCap w (⟨l.toArray⟩:ByteArray).size 0 5);rw [hC];have hb:(w.drew.alloc (.cells (bytesRow ⟨l.toArray⟩ C) 5 ((bytesRow ⟨l.toArray⟩ C).size,(bytesRow ⟨l.toArray⟩ C).size+1))).heap[w.heap.size]?=some (.cells (bytesRow ⟨l.toArray⟩ C) 5 ((bytesRow ⟨l.toArray⟩ C).size,(bytesRow ⟨l.toArray⟩ C).size+1)):=heap_alloc_new w.drew _;refine ⟨?_,?_⟩
 ·unfold World.cell?;simp only [hb];rw [<- hj];unfold bytesRow encB;rw [Array.getElem?_append_left (by simp;exact hjl)];simp
 ·unfold World.frozen?;simp only [hb];have:j<(bytesRow ⟨l.toArray⟩ C).size:=by unfold bytesRow;simp;omega
  simp;omega
theorem zHC (l:List UInt8) (g cap:Nat) (w:World) (h:Vec w g (encB l)):(convert 22 9 (.slice (some ⟨g,0,none⟩) l.length cap)).run Tryz.prog w=.ok (sV l) w:=by
 refine run_convert_bytes_back (P:=Tryz.prog) w 22 9 5 ⟨g,0,none⟩ cap l Tryz.underlying22 Tryz.underlying5 Tryz.underlying9 (fun j hj=>?_);have:=(h j _ (zJW (List.getElem?_eq_getElem hj))).1;rw [show (⟨g,0,none⟩:Addr).add j=⟨g,j,none⟩ by unfold Addr.add;split <;> simp_all];exact this
def zCH (c:UInt8):Bool:=decide (32<=c.toNat/\c.toNat<=126)
def zG6 (l:List UInt8):Bool:=l.all zCH
def zES (m:Nat) (l:List UInt8):Bool:=l.all zCH && decide (l.length<=m)
def zET (l:List UInt8):Bool:=zES 200 l
theorem zH4 (N:Int) (q:Bool) (w:World) (h:(decide (32<=N) && decide (N<=126))=q):Calls Tryz.prog 168 #[.int .u8 N] w fun e w'=>e=.returned (.bool q)/\w'=w:=by
 subst h;by_cases h1:32<=N
 ·by_cases h2:N<=126
  ·go_enter Tryz.func168,Tryz.ntmps168;go_wp2_with fail;go_ret;exact ⟨zA1 (by simp [h1,h2]),rfl⟩
  ·go_enter Tryz.func168,Tryz.ntmps168;go_wp2_with fail;go_ret;exact ⟨zA1 (by simp;omega),rfl⟩
 ·go_enter Tryz.func168,Tryz.ntmps168;go_wp2_with fail;go_ret;exact ⟨zA1 (by simp;omega),rfl⟩
theorem zU9 (l:List UInt8) (w:World) (hl:l.length<=2000000):Calls Tryz.prog 154 #[sV l] w fun e w'=>e=.returned (.bool (zG6 l))/\w'=w:=by
 obtain ⟨s,hs⟩:∃ s:ByteArray,(⟨l.toArray⟩:ByteArray)=s:=⟨_,rfl⟩;have hsl:s.data.toList=l:=by rw [<- hs]
 have hsz:=zBJ hsl;show Calls Tryz.prog 154 #[.string ⟨l.toArray⟩] w _;rw [hs];clear hs;obtain ⟨n,hn⟩:=nm (l.length);have HN:Hid _:=hn;have HS:Hid _:=hsl;rw [hn] at hl hsz;clear hn hsl;go_enter Tryz.func154,Tryz.ntmps154;go_wp2_with fail
 go_loop [6] (fun i=>∃ k:Nat,k<=n/\i=.int .i64 k/\Hid ((l.take k).all zCH=true)) (fun i=>n - (intOf i).toNat)
 case atStart=>exact ⟨0,by omega,rfl,by show _=_;simp⟩
 case round =>
  obtain ⟨k,hk,rfl,HA⟩:=hrel;by_cases hlt:k<n
  ·have hks:k<s.size:=by omega
   have hb0:=zB8 HS.out hks;have htk:=zDJ (l:=l) (i:=k) (by rw [HN.out];exact hlt);obtain ⟨c,hcc⟩:=nm (l.getD k 0);rw [hcc] at hb0 htk;have hb:((s[k]'hks).toNat:Int)=(c.toNat:Int):=by rw [hb0]
   have i2:(k:Int)<(n:Int):=by omega
   by_cases hc:zCH c=true
   ·have hc':32<=c.toNat/\c.toNat<=126:=(by simpa [zCH] using hc);have HA2:Hid ((l.take (k+1)).all zCH=true):=by
     show _=_;rw [htk,List.all_append,HA.out,List.all_cons,hc];rfl
    obtain ⟨N,hN⟩:∃ N:Int,(c.toNat:Int)=N:=⟨_,rfl⟩;rw [hN] at hb;have n1:32<=N:=(by omega);have n2:N<=126:=(by omega);have PB:(decide (32<=N) && decide (N<=126))=true:=(by simp;omega);clear hN hc hc' hb0 htk hcc HA;go_wp2_with (go_at_call 168;refine (zH4 N _ _ PB).mono ?_;rintro e w' ⟨rfl,rfl⟩)
    go_round
    case rel=>exact ⟨k+1,by omega,by go_num,HA2⟩
    case measure=>simp [intOf];omega
   ·have HF:Hid (zG6 l=false):=by
     show _=_;have hm:c ∈ l:=by
      have:c ∈ l.take (k+1):=(by rw [htk];simp);exact List.mem_of_mem_take this
     have hf:l.all zCH=false:=by
      cases hq:l.all zCH with
      | false=>rfl
      | true=>exact absurd ((List.all_eq_true.1 hq) c hm) hc
     unfold zG6;rw [hf]
    have hc':c.toNat<32\/126<c.toNat:=by
     have:¬ (32<=c.toNat/\c.toNat<=126):=(by simpa [zCH] using hc);omega
    obtain ⟨N,hN⟩:∃ N:Int,(c.toNat:Int)=N:=⟨_,rfl⟩;rw [hN] at hb;have n1:N<32\/126<N:=(by omega);have PB:(decide (32<=N) && decide (N<=126))=false:=(by simp;omega);clear hN hc hc' hb0 htk hcc HA;go_wp2_with (go_at_call 168;refine (zH4 N _ _ PB).mono ?_;rintro e w' ⟨rfl,rfl⟩);go_ret;exact ⟨zA1 (by rw [HF.out]),rfl⟩
  ·obtain rfl:k=n:=by omega
   have HT:Hid (zG6 l=true):=by
    show _=_;have h1:=HA.out;rw [List.take_of_length_le (by rw [HN.out];omega)] at h1;exact h1
   clear HA;go_wp2_with fail;go_ret;exact ⟨zA1 (by rw [HT.out]),rfl⟩
theorem zVV (l:List UInt8) (w:World) (hl:l.length<=2000000):Calls Tryz.prog 133 #[sV l] w fun e w'=>e=.returned (.bool (zET l))/\w'=w:=by
 have C:=fun W=>zU9 l W hl;obtain ⟨n,hn⟩:=nm (l.length);have hs:(⟨l.toArray⟩:ByteArray).size=n:=hn;have e:zET l=(zG6 l && decide ((n:Int)<=200)):=by unfold zET zES zG6;rw [hn];congr 1;simp;omega
 rw [e];rw [hn] at hl;clear e;obtain ⟨p,hp⟩:=nm (zG6 l);rw [hp] at C ⊢;clear hp hn;go_enter Tryz.func133,Tryz.ntmps133;cases p
 all_goals go_wp2_with (go_at_call 154;refine (C _).mono ?_;rintro e w' ⟨rfl,rfl⟩)
 all_goals go_ret
 all_goals exact ⟨zA1 (by simp),rfl⟩
theorem zR5 (m:Nat) (l:List UInt8) (w:World) (hl:l.length<=2000000):Calls Tryz.prog 120 #[sV l,iQ (m:Int)] w fun e w'=>e=.returned (.bool (zES m l))/\w'=w:=by
 obtain ⟨s,hs⟩:∃ s:ByteArray,(⟨l.toArray⟩:ByteArray)=s:=⟨_,rfl⟩;have hsl:s.data.toList=l:=by rw [<- hs]
 have hsz:=zBJ hsl;show Calls Tryz.prog 120 #[.string ⟨l.toArray⟩,iQ (m:Int)] w _;rw [hs];clear hs;obtain ⟨n,hn⟩:=nm (l.length);have HN:Hid _:=hn;have HS:Hid _:=hsl;rw [hn] at hl hsz;clear hn hsl;go_enter Tryz.func120,Tryz.ntmps120;go_wp2_with fail
 go_loop [5] (fun i=>∃ k:Nat,k<=n/\i=.int .i64 k/\Hid ((l.take k).all zCH=true)) (fun i=>n - (intOf i).toNat)
 case atStart=>exact ⟨0,by omega,rfl,by show _=_;simp⟩
 case round =>
  obtain ⟨k,hk,rfl,HA⟩:=hrel;by_cases hlt:k<n
  ·have hks:k<s.size:=by omega
   have hb0:=zB8 HS.out hks;have htk:=zDJ (l:=l) (i:=k) (by rw [HN.out];exact hlt);obtain ⟨c,hcc⟩:=nm (l.getD k 0);rw [hcc] at hb0 htk;have hb:((s[k]'hks).toNat:Int)=(c.toNat:Int):=by rw [hb0]
   have i2:(k:Int)<(n:Int):=by omega
   by_cases hc:zCH c=true
   ·have hc':32<=c.toNat/\c.toNat<=126:=(by simpa [zCH] using hc);have HA2:Hid ((l.take (k+1)).all zCH=true):=by
     show _=_;rw [htk,List.all_append,HA.out,List.all_cons,hc];rfl
    obtain ⟨N,hN⟩:∃ N:Int,(c.toNat:Int)=N:=⟨_,rfl⟩;rw [hN] at hb;have n1:32<=N:=(by omega);have n2:N<=126:=(by omega);clear hN hc hc' hb0 htk hcc HA;go_wp2_with fail
    go_round
    case rel=>exact ⟨k+1,by omega,by go_num,HA2⟩
    case measure=>simp [intOf];omega
   ·have HF:Hid (zES m l=false):=by
     show _=_;have hm:c ∈ l:=by
      have:c ∈ l.take (k+1):=(by rw [htk];simp);exact List.mem_of_mem_take this
     have hf:l.all zCH=false:=by
      cases hq:l.all zCH with
      | false=>rfl
      | true=>exact absurd ((List.all_eq_true.1 hq) c hm) hc
     unfold zES;rw [hf];rfl
    have hc':c.toNat<32\/126<c.toNat:=by
     have:¬ (32<=c.toNat/\c.toNat<=126):=(by simpa [zCH] using hc);omega
    obtain ⟨N,hN⟩:∃ N:Int,(c.toNat:Int)=N:=⟨_,rfl⟩;rw [hN] at hb;have n1:N<32\/126<N:=(by omega);clear hN hc hc' hb0 htk hcc HA
    rcases n1 with n1 | n1
    ·go_wp2_with fail;go_ret;exact ⟨zA1 (by rw [HF.out]),rfl⟩
    ·have n2:32<=N:=(by omega);go_wp2_with fail;go_ret;exact ⟨zA1 (by rw [HF.out]),rfl⟩
  ·obtain rfl:k=n:=by omega
   have HT:Hid (zES m l=decide ((k:Int)<=(m:Int))):=by
    show _=_;have h1:=HA.out;rw [List.take_of_length_le (by rw [HN.out];omega)] at h1;unfold zES;rw [h1,HN.out];simp
   clear HA;go_wp2_with fail;go_ret;exact ⟨zA1 (by rw [HT.out];simp),rfl⟩
def zEP (l:List UInt8):Bool:=(l == [84,82,85,69]) || (l == [70,65,76,83,69])
theorem zVF (l:List UInt8) (w:World):Calls Tryz.prog 134 #[sV l] w fun e w'=>e=.returned (.bool (zEP l))/\w'=w:=by
 obtain ⟨p,hp⟩:=nm ((l == [84,82,85,69]));obtain ⟨q,hq⟩:=nm ((l == [70,65,76,83,69]));have e:zEP l=(p || q):=by unfold zEP;rw [hp,hq]
 rw [e];clear e;cases p <;> cases q
 all_goals
  go_enter Tryz.func134,Tryz.ntmps134;go_wp2_with fail;go_ret;exact ⟨rfl,rfl⟩
end Go.Proofs.YteliaeejooekbaaGreatDoor
