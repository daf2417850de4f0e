/-
  Several texts in one: Base, BaseT, Good, Wide, WideB, WideC, WideD.
-/
import Derived.Test.YtjlojlgdkfpcdaaGreatDoorProg
import Derived.WalkKit
import Derived.WalkSpells
import Derived.WalkLawsBesides
import Derived.Shelf.Bits.Mul64
import Derived.Deep.QuietTactic
import Derived.BigQuiet
import Derived.Deep.RegionWith
set_option maxRecDepth 100000
set_option maxHeartbeats 2000000
namespace Go.Proofs.YtjlojlgdkfpcdaaGreatDoor
open Go.RowKit
abbrev Ext (w w':World):Prop:=Below w.heap.size w w'
theorem _root_.Go.Calls.to {P:Program} {f:FuncId} {a:Array Value} {w:World} {v:Value} {Q:Ending->World->Prop} (h:Calls P f a w fun e w'=>e=.returned v/\Ext w w') (k:∀ w',Ext w w'->Q (.returned v) w'):Calls P f a w Q:=h.mono fun _ w' q=>q.1 ▸ k w' q.2
theorem nm {α:Sort _} (a:α):∃ x,a=x:=⟨a,rfl⟩
abbrev iQ (n:Int):Value:=.int .i64 n
theorem xr (w:World):Ext w w:=Below.refl _ _
theorem hid {p:Prop} (h:p):Hid p:=h
theorem xt {a b c:World} (h:Ext a b) (k:Ext b c):Ext a c:=h.trans (k.mono h.size)
theorem xa {a b:World} (h:Ext a b) (o:Obj):Ext a (b.alloc o):=h.alloc h.size o
theorem xd {a b:World} (h:Ext a b):Ext a b.drew:=h.drew
theorem x1 (w:World) (o:Obj):Ext w (w.alloc o):=xa (xr w) o
theorem zA5 {a b:Bool} (h:a=b):Ending.returned (.bool a)=.returned (.bool b):=by rw [h]
theorem zA8 {k:IntKind} {a b:Int} (h:a=b):Ending.returned (.int k a)=.returned (.int k b):=by rw [h]
theorem xset {a b:World} (h:Ext a b) {p:Addr} (hp:a.heap.size<=p.block) (u:Value):Ext a (b.setCell p u):=h.setCell hp u
theorem zAP {w w1:World} (hb:Ext w w1) {p:Addr} {v:Value} (h:w.cell? p=some v) (hf:w.frozen? p=false):w1.frozen? p=false:=
 (hb.frozen (World.block_lt_of_cell? _ _ h)).trans hf
def Box2 (w:World) (b:Nat) (v0 v1:Value):Prop:=(w.cell? ⟨b,0,none⟩=some v0/\w.cell? ⟨b,1,none⟩=some v1)/\w.frozen? ⟨b,0,none⟩=false/\w.frozen? ⟨b,1,none⟩=false
def Box3 (w:World) (b:Nat) (v0 v1 v2:Value):Prop:=(w.cell? ⟨b,0,none⟩=some v0/\w.cell? ⟨b,1,none⟩=some v1/\w.cell? ⟨b,2,none⟩=some v2)/\w.frozen? ⟨b,0,none⟩=false/\w.frozen? ⟨b,1,none⟩=false/\w.frozen? ⟨b,2,none⟩=false
def Box4 (w:World) (b:Nat) (v0 v1 v2 v3:Value):Prop:=(w.cell? ⟨b,0,none⟩=some v0/\w.cell? ⟨b,1,none⟩=some v1/\w.cell? ⟨b,2,none⟩=some v2/\w.cell? ⟨b,3,none⟩=some v3)/\w.frozen? ⟨b,0,none⟩=false/\w.frozen? ⟨b,1,none⟩=false/\w.frozen? ⟨b,2,none⟩=false/\w.frozen? ⟨b,3,none⟩=false
theorem Box2.made (w:World) (v0 v1:Value) (t:TypeId):Box2 (w.alloc (.cells #[v0,v1] t)) w.heap.size v0 v1:=by
 refine ⟨⟨?_,?_⟩,?_,?_⟩ <;> simp [go_sem]
theorem Box3.made (w:World) (v0 v1 v2:Value) (t:TypeId):Box3 (w.alloc (.cells #[v0,v1,v2] t)) w.heap.size v0 v1 v2:=by
 refine ⟨⟨?_,?_,?_⟩,?_,?_,?_⟩ <;> simp [go_sem]
theorem Box4.made (w:World) (v0 v1 v2 v3:Value) (t:TypeId):Box4 (w.alloc (.cells #[v0,v1,v2,v3] t)) w.heap.size v0 v1 v2 v3:=by
 refine ⟨⟨?_,?_,?_,?_⟩,?_,?_,?_,?_⟩ <;> simp [go_sem]
theorem Box2.l {w w1:World} {b:Nat} {v0 v1:Value} (h:Box2 w b v0 v1) (hb:Ext w w1):Box2 w1 b v0 v1:=
 ⟨⟨cell_later hb h.1.1,cell_later hb h.1.2⟩,zAP hb h.1.1 h.2.1,zAP hb h.1.2 h.2.2⟩
theorem Box3.l {w w1:World} {b:Nat} {v0 v1 v2:Value} (h:Box3 w b v0 v1 v2) (hb:Ext w w1):Box3 w1 b v0 v1 v2:=
 ⟨⟨cell_later hb h.1.1,cell_later hb h.1.2.1,cell_later hb h.1.2.2⟩,zAP hb h.1.1 h.2.1,zAP hb h.1.2.1 h.2.2.1,zAP hb h.1.2.2 h.2.2.2⟩
theorem Box4.l {w w1:World} {b:Nat} {v0 v1 v2 v3:Value} (h:Box4 w b v0 v1 v2 v3) (hb:Ext w w1):Box4 w1 b v0 v1 v2 v3:=
 ⟨⟨cell_later hb h.1.1,cell_later hb h.1.2.1,cell_later hb h.1.2.2.1,cell_later hb h.1.2.2.2⟩,zAP hb h.1.1 h.2.1,zAP hb h.1.2.1 h.2.2.1,zAP hb h.1.2.2.1 h.2.2.2.1,zAP hb h.1.2.2.2 h.2.2.2.2⟩
abbrev decV (neg:Bool) (d x:Int):Value:=.agg #[.bool neg,iQ d,iQ x]
def Tens (w:World):Prop:=∀ i:Nat,i<20->w.cell? ⟨1,i,none⟩=some (.int .u64 ((10 ^ i:Nat):Int))
theorem Tens.l {w w1:World} (h:Tens w) (hb:Ext w w1):Tens w1:=fun i hi=>cell_later hb (h i hi)
theorem Tens.at15 {w:World} (h:Tens w):w.cell? ⟨1,15,none⟩=some (.int .u64 1000000000000000):=h 15 (by decide)
def zA1 (neg:Bool) (d x:Int):Bool:=
 if d=0 then (!neg && decide (x=0)) else decide (0<d/\d<1000000000000000/\d % 10 ≠ 0 /\ -300<=x/\x<=300)
theorem zVS (neg:Bool) (d x:Int) (w:World) (h1 : -9223372036854775808<=d) (h2:d<=9223372036854775807) (hT:Tens w) :
  Calls Tryz.prog 66 #[.agg #[.bool neg,iQ d,iQ x]] w fun e w'=>e=.returned (.bool (zA1 neg d x))/\Ext w w':=by
 have hT':=fun o=>Lib.cell?_alloc_some o hT.at15;clear hT;go_enter Tryz.func66,Tryz.ntmps66
 go_wp2
 all_goals go_ret
 all_goals refine ⟨zA5 ?_,?_⟩
 all_goals first | exact x1 _ _ | skip
 all_goals clear hT'
 all_goals simp_all [zA1]
 all_goals (intros;omega)
theorem zVR (neg:Bool) (d x:Int) (w:World) :
  Calls Tryz.prog 76 #[.agg #[.bool neg,iQ d,iQ x]] w fun e w'=>e=.returned (.bool (zA1 neg d x))/\Ext w w':=by
 go_enter Tryz.func76,Tryz.ntmps76
 go_wp2
 all_goals go_ret
 all_goals refine ⟨zA5 ?_,?_⟩
 all_goals first | exact x1 _ _ | skip
 all_goals simp_all [zA1]
 all_goals (intros;omega)
theorem zSO (x y:Nat) (hx:x<18446744073709551616) (hy:y<18446744073709551616) (w:World) :
  Calls Tryz.prog 158 #[.int .u64 x,.int .u64 y] w fun e w'=>∃ h l:Nat,e=.returned (.tuple #[.int .u64 h,.int .u64 l])/\w'=w/\h<18446744073709551616/\l<18446744073709551616/\h * 18446744073709551616+l=x * y:=by
 obtain ⟨bd,bt,bw,hhi⟩:=Lib.mul64_hi x y hx hy;have ba:=Lib.half_mul_le (a:=x / 4294967296) (b:=y / 4294967296) (by omega) (by omega);have bb:=Lib.half_mul_le (a:=x / 4294967296) (b:=y % 4294967296) (by omega) (by omega);have bc:=Lib.half_mul_le (a:=x % 4294967296) (b:=y / 4294967296) (by omega) (by omega);have ba':x / 4294967296 * (y / 4294967296)<18446744073709551616:=by omega
 have bb':x / 4294967296 * (y % 4294967296)<18446744073709551616:=by omega
 have bc':x % 4294967296 * (y / 4294967296)<18446744073709551616:=by omega
 have hlt:x * y<18446744073709551616 * 18446744073709551616:=Nat.mul_lt_mul'' hx hy;have hq:x * y / 18446744073709551616<18446744073709551616:=Nat.div_lt_of_lt_mul hlt;have bh1:x / 4294967296 * (y / 4294967296)+(x / 4294967296 * (y % 4294967296)+x % 4294967296 * (y % 4294967296) / 4294967296) / 4294967296<18446744073709551616:=by omega
 have bh:x / 4294967296 * (y / 4294967296)+(x / 4294967296 * (y % 4294967296)+x % 4294967296 * (y % 4294967296) / 4294967296) / 4294967296+((x / 4294967296 * (y % 4294967296)+x % 4294967296 * (y % 4294967296) / 4294967296) % 4294967296+x % 4294967296 * (y / 4294967296)) / 4294967296<18446744073709551616:=by omega
 have hc:(x * y / 18446744073709551616) * 18446744073709551616+x * y % 18446744073709551616=x * y:=Nat.div_add_mod' _ _;have HC:=hid hc;have HQ:=hid hq;have HH:=hhi;have HHI:=hid hhi;clear hc hq hlt hhi HH;go_enter Tryz.func158,Tryz.ntmps158
 go_wp2
 simp only [Mul64.maskN x hx,Mul64.maskN y hy,Mul64.divN,Mul64.mulN,Mul64.addN,Mul64.wrapN _ bd,Mul64.wrapN _ bb',Mul64.wrapN _ bt,Mul64.maskN _ bt,Mul64.wrapN _ bc',Mul64.wrapN _ bw,Mul64.wrapN _ ba',Mul64.wrapN _ bh1,Mul64.wrapN _ bh,Mul64.wrapM (x * y)];rw [HHI.out]
 go_ret2
 exact ⟨_,_,rfl,rfl,HQ.out,Nat.mod_lt _ (by decide),HC.out⟩
def WV (v:Value) (n:Nat):Prop:=∃ h l:Nat,v=.agg #[.int .u64 h,.int .u64 l]/\h<18446744073709551616/\l<18446744073709551616/\h * 18446744073709551616+l=n
theorem zCX (x y:Nat) (hx:x<18446744073709551616) (hy:y<18446744073709551616) (w:World) :
  Calls Tryz.prog 134 #[.int .u64 x,.int .u64 y] w fun e w'=>∃ v,e=.returned v/\WV v (x * y)/\Ext w w':=by
 go_enter Tryz.func134,Tryz.ntmps134;go_wp2_with fail;refine (zSO x y hx hy _).mono ?_;rintro e w1 ⟨h,l,rfl,rfl,h1,h2,h3⟩;have H3:=hid h3;clear h3
 go_wp2
 exact bodyPost_ret (v:=.agg #[.int .u64 h,.int .u64 l]) (by simp [results,Tryz.results134,go_sem]) rfl ⟨_,rfl,⟨h,l,rfl,h1,h2,H3.out⟩,x1 _ _⟩
theorem wv_lt {a b h l h' l':Nat} (h2:l<18446744073709551616) (e:h * 18446744073709551616+l=a) (h2':l'<18446744073709551616) (e':h' * 18446744073709551616+l'=b):a<b ↔ h<h'\/h=h'/\l<l':=by omega
theorem zJV {v u:Value} {a b:Nat} (w:World) (hv:WV v a) (hu:WV u b) :
  Calls Tryz.prog 219 #[v,u] w fun e w'=>e=.returned (.bool (decide (a<b)))/\Ext w w':=by
 obtain ⟨h,l,rfl,h1,h2,e1⟩:=hv;obtain ⟨h',l',rfl,h1',h2',e2⟩:=hu;have E:=wv_lt h2 e1 h2' e2;have HE:=hid E;clear E e1 e2;go_enter Tryz.func219,Tryz.ntmps219
 go_wp2
 all_goals go_ret
 all_goals refine ⟨zA5 ?_,xa (x1 _ _) _⟩
 all_goals rw [Bool.eq_iff_iff]
 all_goals simp [HE.out]
 all_goals omega
theorem Tens.at {w:World} (h:Tens w) {i:Nat} (hi:i<20):∃ t:Nat,10 ^ i=t/\t<18446744073709551616/\w.cell? ⟨1,i,none⟩=some (.int .u64 t):=by
 refine ⟨10 ^ i,rfl,?_,h i hi⟩;have:10 ^ i<=10 ^ 19:=Nat.pow_le_pow_right (by decide) (by omega);have e:(10:Nat) ^ 19=10000000000000000000:=by decide
 omega
theorem zG5 (neg:Bool) (d:Nat) (x:Int) (w:World) (hd:d<1000000000000000) :
  Calls Tryz.prog 136 #[.agg #[.bool neg,iQ d,iQ x]] w fun e w'=>∃ v,e=.returned v/\WV v d/\Ext w w':=by
 go_enter Tryz.func136,Tryz.ntmps136
 go_wp2
 exact bodyPost_ret (v:=.agg #[.int .u64 (0:Nat),.int .u64 d]) (by simp [results,Tryz.results136,go_sem]) rfl ⟨_,rfl,⟨0,d,rfl,by omega,by omega,by omega⟩,xa (x1 _ _) _⟩
theorem zHB (n:Nat) (hn:n<=38) (w:World) (hT:Tens w) :
  Calls Tryz.prog 220 #[iQ n] w fun e w'=>∃ v,e=.returned v/\WV v (10 ^ n)/\Ext w w':=by
 by_cases h19:n<=19
 ·obtain ⟨t,et,t1,ct⟩:=hT.at (i:=n) (by omega);obtain ⟨u,eu,u1,cu⟩:=hT.at (i:=0) (by omega);have HP:Hid (t * u=10 ^ n):=by rw [<- et,<- eu];simp [Hid]
  have ct':=fun o=>Lib.cell?_alloc_some o ct;have cu':=fun o=>Lib.cell?_alloc_some o cu;clear et eu hT ct cu;go_enter Tryz.func220,Tryz.ntmps220;go_wp2_with fail;go_region_with (first
   | (go_at_call 134;refine (zCX t u t1 u1 _).mono ?_;rintro e w1 ⟨v,rfl,hv,e1⟩;obtain ⟨h,l,rfl,h1,h2,h3⟩:=hv;have H3:Hid (h * 18446744073709551616+l=t * u):=h3;clear h3;have B1:=(Box2.made w (.int .u64 0) (.int .u64 0) 156).l (xt (xd (xr _)) e1);obtain ⟨⟨r0,r1⟩,s0,s1⟩:=B1))
  all_goals
   go_wp2
   exact bodyPost_ret (v:=.agg #[.int .u64 h,.int .u64 l]) (by simp [results,Tryz.results220,go_sem,r0,r1]) rfl ⟨_,rfl,⟨h,l,rfl,h1,h2,H3.out.trans HP.out⟩,xset (xset (xt (xd (x1 _ _)) e1) (Nat.le_refl _) _) (Nat.le_refl _) _⟩
 ·obtain ⟨t,et,t1,ct⟩:=hT.at (i:=19) (by omega);obtain ⟨u,eu,u1,cu⟩:=hT.at (i:=n - 19) (by omega);have HP:Hid (t * u=10 ^ n):=by rw [<- et,<- eu,<- Nat.pow_add];show 10 ^ (19+(n - 19))=10 ^ n;congr 1;omega
  have ct':=fun o=>Lib.cell?_alloc_some o ct;have cu':=fun o=>Lib.cell?_alloc_some o cu;obtain ⟨j,rfl⟩:∃ j,n=j+19:=⟨n - 19,by omega⟩;have ej:j+19 - 19=j:=by omega
  rw [ej] at cu';have hj1:(j:Int)<20:=by omega
  have hj2:j<=19:=by omega
  have hwj:IntKind.i64.wrap (j:Int)=(j:Int):=by rw [IntKind.wrap_i64];omega
  have ea:((j+19:Nat):Int)=(j:Int)+19:=by omega
  rw [ea];clear et eu hT ct cu ej ea;go_enter Tryz.func220,Tryz.ntmps220;go_wp2_with fail;go_region_with (first
   | (go_at_call 134;refine (zCX t u t1 u1 _).mono ?_;rintro e w1 ⟨v,rfl,hv,e1⟩;obtain ⟨h,l,rfl,h1,h2,h3⟩:=hv;have H3:Hid (h * 18446744073709551616+l=t * u):=h3;clear h3;have B1:=(Box2.made w (.int .u64 0) (.int .u64 0) 156).l (xt (xd (xr _)) e1);obtain ⟨⟨r0,r1⟩,s0,s1⟩:=B1))
  all_goals
   go_wp2
   exact bodyPost_ret (v:=.agg #[.int .u64 h,.int .u64 l]) (by simp [results,Tryz.results220,go_sem,r0,r1]) rfl ⟨_,rfl,⟨h,l,rfl,h1,h2,H3.out.trans HP.out⟩,xset (xset (xt (xd (x1 _ _)) e1) (Nat.le_refl _) _) (Nat.le_refl _) _⟩
def Dig (a k:Nat):Prop:=a<10 ^ k/\(k=0\/10 ^ (k - 1)<=a)
theorem zIY {v:Value} {a:Nat} (w:World) (hv:WV v a) (hT:Tens w) :
  Calls Tryz.prog 187 #[v] w fun e w'=>∃ k:Nat,e=.returned (iQ k)/\Dig a k/\k<=39/\Ext w w':=by
 have hv':=hv;obtain ⟨h,l,rfl,h1,h2,e1⟩:=hv;have ha:a<1000000000000000000000000000000000000000:=by omega
 clear e1;go_enter Tryz.func187,Tryz.ntmps187;go_wp2_with fail;go_loopw [3] (fun n wr=>∃ k:Nat,k<=39/\n=.int .i64 k/\(k=0\/10 ^ (k - 1)<=a)/\Ext (w.alloc (.cells #[.int .u64 h,.int .u64 l] 156)) wr) (fun n _=>40 - (intOf n).toNat)
 case atStart=>exact ⟨0,by omega,rfl,.inl rfl,xr _⟩
 case round =>
  obtain ⟨k,hk,rfl,hlo,X⟩:=hrel;have HL:=hid hlo;clear hlo;by_cases h38:k<=38
  ·have g1:(k:Int)<=38:=by omega
   have B:=(Box2.made w (.int .u64 h) (.int .u64 l) 156).l X;have T:=(hT.l (x1 _ _)).l X;have B':=B;obtain ⟨⟨q0,q1⟩,_⟩:=B';obtain ⟨c,hc⟩:∃ c:Bool,decide (a<10 ^ k)=c:=⟨_,rfl⟩;have LS:Hid (∀ (w:World) (u:Value),WV u (10 ^ k)->Calls Tryz.prog 219 #[.agg #[.int .u64 h,.int .u64 l],u] w fun e w'=>e=.returned (.bool c)/\Ext w w'):=fun w u hu=>by rw [<- hc];exact zJV w hv' hu
   have HC:=hid hc;clear hc;cases c
   ·go_wp2_with fail;go_region_with (first
     | (go_at_call 220;refine (zHB k h38 _ (T.l (xd (xr _)))).mono ?_;rintro e w1 ⟨u,rfl,hu,e1⟩;obtain ⟨⟨q0',q1'⟩,_⟩:=B.l (xt (xd (xr _)) e1))
     | (go_at_call 219;refine (LS.out _ _ (by assumption)).mono ?_;rintro e w2 ⟨rfl,e2⟩))
    all_goals
     go_wp2
     go_roundw
     case rel=>exact ⟨k+1,by omega,by go_num,.inr (by have:=HC.out;simp at this;simpa using this),xt (xt (xd X) (by assumption)) (by assumption)⟩
     case measure=>simp [intOf];omega
   ·go_wp2_with fail;go_region_with (first
     | (go_at_call 220;refine (zHB k h38 _ (T.l (xd (xr _)))).mono ?_;rintro e w1 ⟨u,rfl,hu,e1⟩;obtain ⟨⟨q0',q1'⟩,_⟩:=B.l (xt (xd (xr _)) e1))
     | (go_at_call 219;refine (LS.out _ _ (by assumption)).mono ?_;rintro e w2 ⟨rfl,e2⟩))
    all_goals
     go_wp2
     go_ret;exact ⟨k,rfl,⟨by simpa using HC.out,HL.out⟩,by omega,xt (xt (xt (x1 _ _) (xd X)) (by assumption)) (by assumption)⟩
  ·obtain rfl:k=39:=by omega
   go_wp2_with fail
   go_region
   all_goals
    go_wp2
    go_ret;exact ⟨39,rfl,⟨by simpa using ha,HL.out⟩,by omega,xt (x1 _ _) (xd X)⟩
theorem Box2.up {w:World} {b:Nat} {v0 v1:Value} (h:Box2 w b v0 v1):((∀ o,(w.alloc o).cell? ⟨b,0,none⟩=some v0)/\∀ o,(w.alloc o).cell? ⟨b,1,none⟩=some v1)/\(∀ o,(w.alloc o).frozen? ⟨b,0,none⟩=false)/\∀ o,(w.alloc o).frozen? ⟨b,1,none⟩=false:=
 ⟨⟨fun o=>(h.l (x1 w o)).1.1,fun o=>(h.l (x1 w o)).1.2⟩,fun o=>(h.l (x1 w o)).2.1,fun o=>(h.l (x1 w o)).2.2⟩
theorem zQT {a n h l h' l':Nat} (e:h * 18446744073709551616+l=a) (e':h' * 18446744073709551616+l'=l * n) (hlt:a * n<340282366920938463463374607431768211456) :
  h * n<18446744073709551616/\h'+h * n<18446744073709551616/\(h'+h * n) * 18446744073709551616+l'=a * n:=by
 have h1:a * n=h * n * 18446744073709551616+l * n:=by rw [<- e,Nat.add_mul,Nat.mul_right_comm]
 rw [h1] at hlt ⊢;generalize h * n=p at *;generalize l * n=q at *;omega
theorem zFH {v:Value} {a:Nat} (n:Nat) (w:World) (hv:WV v a) (hn:n<18446744073709551616) (hlt:a * n<340282366920938463463374607431768211456) :
  Calls Tryz.prog 252 #[v,.int .u64 n] w fun e w'=>∃ v',e=.returned v'/\WV v' (a * n)/\Ext w w':=by
 obtain ⟨h,l,rfl,h1,h2,e1⟩:=hv;have E1:Hid _:=e1;have HL:=hid hlt;clear e1 hlt;go_enter Tryz.func252,Tryz.ntmps252;go_wp2_with fail;refine (zCX l n h2 hn _).mono ?_;rintro e w1 ⟨v',rfl,hv',x1'⟩;obtain ⟨h',l',rfl,h1',h2',e2⟩:=hv';obtain ⟨t1,t2,t3⟩:=zQT E1.out e2 HL.out;obtain ⟨p,hp⟩:∃ p:Nat,h * n=p:=⟨_,rfl⟩;have hpi:(h:Int) * (n:Int)=(p:Int):=by rw [<- Int.natCast_mul,hp]
 rw [hp] at t1 t2 t3;have T3:Hid _:=t3;have B1:=(Box2.made w (.int .u64 h) (.int .u64 l) 156).l (xt (x1 _ _) x1');have Br:=(Box2.made (w.alloc (.cells #[.int .u64 h,.int .u64 l] 156)) (.int .u64 0) (.int .u64 0) 156).l x1';simp only [World.size_alloc] at Br;obtain ⟨⟨q0,q1⟩,_⟩:=B1.up;obtain ⟨⟨r0,r1⟩,s0,s1⟩:=Br.up;have sz:=x1'.size;simp only [World.size_alloc] at sz;clear e2 t3 E1 HL hp;have n0:w.heap.size+1 ≠ w1.heap.size:=by omega
 go_wp2
 exact bodyPost_ret (v:=.agg #[.int .u64 ((h'+p:Nat):Int),.int .u64 l']) (by simp [results,Tryz.results252,go_sem,r0,r1]) rfl
  ⟨_,rfl,⟨h'+p,l',rfl,t2,h2',T3.out⟩,xset (xset (xa (xt (xa (x1 _ _) _) x1') _) (Nat.le_succ _) _) (Nat.le_succ _) _⟩
end Go.Proofs.YtjlojlgdkfpcdaaGreatDoor

