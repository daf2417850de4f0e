/-
  Chapter 11: the law of Allowed, by what Meets says.
-/
import Derived.Test.YtiaakhogigddbaaGreatDoorMg12
import Derived.Test.YtiaakhogigddbaaGreatDoorMg4
import Derived.Test.YtiaakhogigddbaaGreatDoorMg11
namespace Go.Proofs.YtiaakhogigddbaaGreatDoor
open Go.RowKit
set_option maxRecDepth 8000 in
set_option maxHeartbeats 4000000 in
theorem lawAllowed (a b':VT) (op:List UInt8) (v:Value) (l:List VT) (mb:Bool) (w:World) (h:ValsIn w v l) (hl:l.length≤9223372036854775807) (ht:∀ e ∈ l,e.t.length≤9223372036854775807) (hd:∀ e ∈ l,-9223372036854775808≤e.d∧e.d≤9223372036854775807) (hT:Tens w) (hE:ErrTab w)
  (ho:op.length≤9223372036854775807) (ha:a.t.length≤9223372036854775807) (had : -9223372036854775808≤a.d∧a.d≤9223372036854775807) (hb:b'.t.length≤9223372036854775807) (hmb:a.good=false→mb=false)
  (HMM:op.length≤1048576→a.t.length≤1048576→b'.t.length≤1048576→(∀ W,Ext w W→Calls Tryz.prog 26 #[a.val,sV op,b'.val] W fun z w'=>z=.returned (.bool mb)∧Ext W w')∧∀ W,Ext w W→Calls Tryz.prog 22 #[a.val,sV op,b'.val] W fun z w'=>z=.returned (.bool mb)∧Ext W w') :
  Calls Tryz.prog 4 #[a.val,sV op,b'.val,v] w fun e w'=>e=.returned (.bool true)∧Ext w w':=by
 obtain ⟨ak,an,ad,ax,at'⟩:=a;obtain ⟨bk,bn,bd,bx,bt⟩:=b';obtain ⟨OL,hOL⟩:∃ OL,op.length=OL:=⟨_,rfl⟩;have hsz:(⟨op.toArray⟩:ByteArray).size=OL:=hOL;rw [hOL] at ho HMM;obtain ⟨pv,nv,hv⟩:∃ p n,v=.slice p l.length n:=by obtain ⟨p,n,h,_⟩:=h;exact ⟨p,n,h⟩
 subst hv;obtain ⟨u0,u1,h0,h1,s0,s1,B0,C0,X0⟩:=mkB2 w (valL ak an ad ax at') (valL bk bn bd bx bt) 28 28;obtain ⟨a0,a1,a2,a3,a4⟩:=Vec.five B0;clear hOL;by_cases hbig:(1048576:Int)<OL
 ·clear hT hE HMM;go_enter Tryz.func4,Tryz.ntmps4;go_wp2_with fail;go_ret;exact ⟨rfl,X0⟩
 have hb1:¬ (1048576:Int)<OL:=hbig;go_enter Tryz.func4,Tryz.ntmps4;go_wp2_with fail;clear h0 h1 a0 a1 a2 a3 a4;refine (szValue ak an ad ax at' 1048576 u1 (by omega) (by omega) (by have:at'.length≤9223372036854775807:=ha;omega)).mono ?_;rintro e w1 ⟨rfl,e1⟩;have X1:=xt X0 e1;obtain ⟨z,hz⟩:∃ z:Int,(if (1048576:Int)<(at'.length:Int) then (-1:Int) else 1048576 - (at'.length:Int))=z:=⟨_,rfl⟩;rw [hz];by_cases hn:z<0
 ·clear B0 C0 hT hE;go_wp2_with fail;go_ret;exact ⟨rfl,X1⟩
 have hat:at'.length≤1048576∧z≤1048576:=by
  by_cases hc:(1048576:Int)<at'.length
  ·rw [if_pos hc] at hz;omega
  ·rw [if_neg hc] at hz;omega
 have hz9:decide (z<0)=false:=by simpa using hn
 have C1:=C0.later e1;have B1:=B0.later e1;obtain ⟨a0,a1,a2,a3,a4⟩:=Vec.five C1;clear hz B0 C0;go_wp2_with fail;clear a0 a1 a2 a3 a4;refine (szValue bk bn bd bx bt z w1 (by omega) (by omega) (by have:bt.length≤9223372036854775807:=hb;omega)).mono ?_;rintro e w2 ⟨rfl,e2⟩;have X2:=xt X1 e2;obtain ⟨y,hy⟩:∃ y:Int,(if z<bt.length then -1 else z - bt.length)=y:=⟨_,rfl⟩;rw [hy];by_cases hn2:y<0
 ·clear B1 C1 hT hE;go_wp2_with fail;go_ret;exact ⟨rfl,X2⟩
 have hbt:bt.length≤1048576∧y≤1048576:=by
  by_cases hc:z<bt.length
  ·rw [if_pos hc] at hy;omega
  ·rw [if_neg hc] at hy;omega
 have hy9:decide (y<0)=false:=by simpa using hn2
 have B2:=B1.later e2;have C2:=C1.later e2;clear B1 C1 hy;go_wp2_with fail;refine (szVals _ l y w2 (h.later X2) (by omega) (by omega) hl ht).mono ?_;rintro e w3 ⟨⟨x,rfl,x0,x1,hx⟩,e3⟩;have X3:=xt X2 e3;by_cases hn3:x<0
 ·clear hx B2 C2 hT hE;go_wp2_with fail;go_ret;exact ⟨rfl,X3⟩
 obtain ⟨hl1,ht1⟩:=hx (by omega);have hl2:l.length≤1048576:=by omega
 have hr:∀ e ∈ l,e.room:=fun e he=>⟨by have:=ht1 e he;omega,hd e he⟩;have hx9:decide (x<0)=false:=by simpa using hn3
 obtain ⟨MI,MS⟩:=HMM (by omega) hat.1 hbt.1;obtain ⟨NN,hNN⟩:∃ NN,l.length=NN:=⟨_,rfl⟩;have HV:Hid (ValsIn w (.slice pv NN nv) l):=by rw [← hNN];exact h
 have TG:Hid (∀ W,Ext w W→Calls Tryz.prog 18 #[.slice pv NN nv] W fun e w'=>(∃ g,e=.returned (.slice (some ⟨g,0,none⟩) NN NN)∧W.heap.size≤g∧OwnV w' g l)∧Ext W w'):=fun W hW=>by have:=toVals _ l W (HV.out.later hW) (by omega);rw [hNN] at this;exact this
 have TA:Hid (∀ W,Calls Tryz.prog 9 #[valV ak an ad ax at'] W fun e w'=>e=.returned (valV ak an ad ax at')∧Ext W w'):=fun W=>toValue ak an ad ax at' W;have TV:Hid (∀ W,Calls Tryz.prog 9 #[valV bk bn bd bx bt] W fun e w'=>e=.returned (valV bk bn bd bx bt)∧Ext W w'):=fun W=>toValue bk bn bd bx bt W;have CS:Hid (∀ W g,Ext w W→OwnV W g l→Calls Tryz.prog 17 #[valV ak an ad ax at',sV op,valV bk bn bd bx bt,.slice (some ⟨g,0,none⟩) NN NN] W fun e w'=>e=.returned (.bool (allowB ⟨ak,an,ad,ax,at'⟩ mb l))∧Ext W w'):=fun W g hW O=>allowedS ⟨ak,an,ad,ax,at'⟩ ⟨bk,bn,bd,bx,bt⟩ op _ l mb W (by have:=O.vals;rw [hNN] at this;exact this) hl2 (by show at'.length≤2000000;omega) (fun e he=>(hr e he).1) hmb (fun W' hX=>MS W' (xt hW hX));have CI:Hid (∀ W g,Ext w W→OwnV W g l→Calls Tryz.prog 19 #[valV ak an ad ax at',sV op,valV bk bn bd bx bt,.slice (some ⟨g,0,none⟩) NN NN] W fun e w'=>e=.returned (.bool (allowB ⟨ak,an,ad,ax,at'⟩ mb l))∧Ext W w'):=fun W g hW O=>allowedI ⟨ak,an,ad,ax,at'⟩ ⟨bk,bn,bd,bx,bt⟩ op _ l mb W (by have:=O.vals;rw [hNN] at this;exact this) hl2 ⟨by show at'.length≤2000000;omega,had⟩ hr (hT.later hW) (hE.later hW) (fun W' hX=>MI W' (xt hW hX));have EG:Hid (∀ W g g',OwnV W g l→OwnV W g' l→Calls Tryz.prog 20 #[.slice (some ⟨g,0,none⟩) NN NN,.slice (some ⟨g',0,none⟩) NN NN] W fun e w'=>e=.returned (.bool true)∧Ext W w'):=fun W g g' O O'=>eqVals _ _ l W (by have:=O.vals;rw [hNN] at this;exact this) (by have:=O'.vals;rw [hNN] at this;exact this) (by omega);obtain ⟨Q,hQ⟩:∃ Q,allowB ⟨ak,an,ad,ax,at'⟩ mb l=Q:=⟨_,rfl⟩;rw [hQ] at CS CI;have B3:=B2.later e3;have C3:=C2.later e3;rw [hNN];clear hT hE h hr X0 X1 X2 e1 e2 e3 hNN MI MS HMM B2 C2 s0 s1 hQ hx hl1 ht1 hl ht hd hmb;go_wp2_with fail;refine wp_region_letters (fun lx:Nat→Value=>{ tmps:=#[VT.val ⟨ak,an,ad,ax,at'⟩,sV op,VT.val ⟨bk,bn,bd,bx,bt⟩,Value.slice pv NN nv,Value.pointer (some ⟨w.heap.size,0,none⟩),undef,Value.pointer (some ⟨w.heap.size+1,0,none⟩),undef,Value.bool false,Value.int .i64 x,lx 10,undef,undef,sV op,Value.int .i64 (OL:Int),Value.bool false,Value.agg #[Value.int .i64 ak,Value.bool an,Value.int .i64 ad,Value.int .i64 ax,sV at'],Value.int .i64 1048576,Value.int .i64 z,Value.int .i64 z,Value.bool false,Value.agg #[Value.int .i64 bk,Value.bool bn,Value.int .i64 bd,Value.int .i64 bx,sV bt],Value.int .i64 z,Value.int .i64 y,Value.int .i64 y,Value.bool false,Value.slice pv NN nv,Value.int .i64 y,Value.int .i64 x,Value.int .i64 x,Value.bool false,lx 31,lx 32,lx 33,lx 34,lx 35,lx 36,lx 37,lx 38,undef,undef,undef,undef,undef,undef,undef,undef,undef,undef,undef,undef,undef,undef,undef,undef,undef],defers:=[] }) (fun L lx lw=>Hid (Ext w3 lw∧Vec lw (w.heap.size) [.int .i64 ak,.bool an,.int .i64 ad,.int .i64 ax,sV at']∧Vec lw (w.heap.size+1) [.int .i64 bk,.bool bn,.int .i64 bd,.int .i64 bx,sV bt]∧(L 0=true→lx 31=valV ak an ad ax at')∧(L 1=true→lx 32=valV ak an ad ax at')∧(L 2=true→lx 33=sV op)∧(L 3=true→lx 34=valV bk bn bd bx bt)∧(L 4=true→lx 35=valV bk bn bd bx bt)∧(L 5=true→lx 36=.slice pv NN nv)∧(L 6=true→∃ gg,lx 37=.slice (some ⟨gg,0,none⟩) NN NN∧OwnV lw gg l)∧(L 7=true→lx 38=.bool Q)∧(L 8=true→lx 10=.bool Q))) rfl (by kernel_rfl) (fun jj=>undef) rfl ?_ ?_ ?_
 ·exact ⟨xd (xr w3),B3.later (xd (xr _)),C3.later (xd (xr _)),(fun h=>by cases h),(fun h=>by cases h),(fun h=>by cases h),(fun h=>by cases h),(fun h=>by cases h),(fun h=>by cases h),(fun h=>by cases h),(fun h=>by cases h),(fun h=>by cases h)⟩
 ·intro L lx wl i o K hK ho hL haf hI;obtain ⟨X,f0,f1,f2,f3,f4,f5,f6,f7,f8,f9,f10⟩:=hI.out
  match i,ho,hL,haf,hK with
  | 0,ho,hL,haf,hK =>
   cases ho
   (try dsimp only)
   have a0:=(f0 0 _ rfl).1;have a1:=(f0 1 _ rfl).1;have a2:=(f0 2 _ rfl).1;have a3:=(f0 3 _ rfl).1;have a4:=(f0 4 _ rfl).1;go_wp2_with fail;exact hK (fun jj=>if jj=31 then valV ak an ad ax at' else lx jj) _ ⟨X,(f0),(f1),(fun _=>rfl),(f3),(f4),(f5),(f6),(f7),(f8),(f9),(f10)⟩
  | 1,ho,hL,haf,hK =>
   cases ho
   (try dsimp only)
   rw [f2 (haf ⟨0,.data⟩ (by simp) rfl)];go_wp2_with fail;refine (TA.out wl).mono ?_;rintro rr w' ⟨rfl,E⟩;go_wp2_with fail;exact hK (fun jj=>if jj=32 then valV ak an ad ax at' else if jj=31 then valV ak an ad ax at' else lx jj) _ ⟨xt X E,(f0.later E),(f1.later E),(fun _=>rfl),(fun _=>rfl),(f4),(f5),(f6),(f7),(fun a=>by obtain ⟨gg,h1,h2⟩:=f8 a;exact ⟨gg,h1,h2.later E⟩),(f9),(f10)⟩
  | 2,ho,hL,haf,hK =>
   cases ho
   (try dsimp only)
   go_wp2_with fail;exact hK (fun jj=>if jj=33 then sV op else lx jj) _ ⟨X,(f0),(f1),(f2),(f3),(fun _=>rfl),(f5),(f6),(f7),(f8),(f9),(f10)⟩
  | 3,ho,hL,haf,hK =>
   cases ho
   (try dsimp only)
   have a0:=(f1 0 _ rfl).1;have a1:=(f1 1 _ rfl).1;have a2:=(f1 2 _ rfl).1;have a3:=(f1 3 _ rfl).1;have a4:=(f1 4 _ rfl).1;go_wp2_with fail;exact hK (fun jj=>if jj=34 then valV bk bn bd bx bt else lx jj) _ ⟨X,(f0),(f1),(f2),(f3),(f4),(fun _=>rfl),(f6),(f7),(f8),(f9),(f10)⟩
  | 4,ho,hL,haf,hK =>
   cases ho
   (try dsimp only)
   rw [f5 (haf ⟨3,.data⟩ (by simp) rfl)];go_wp2_with fail;refine (TV.out wl).mono ?_;rintro rr w' ⟨rfl,E⟩;go_wp2_with fail;exact hK (fun jj=>if jj=35 then valV bk bn bd bx bt else if jj=34 then valV bk bn bd bx bt else lx jj) _ ⟨xt X E,(f0.later E),(f1.later E),(f2),(f3),(f4),(fun _=>rfl),(fun _=>rfl),(f7),(fun a=>by obtain ⟨gg,h1,h2⟩:=f8 a;exact ⟨gg,h1,h2.later E⟩),(f9),(f10)⟩
  | 5,ho,hL,haf,hK =>
   cases ho
   (try dsimp only)
   go_wp2_with fail;exact hK (fun jj=>if jj=36 then .slice pv NN nv else lx jj) _ ⟨X,(f0),(f1),(f2),(f3),(f4),(f5),(f6),(fun _=>rfl),(f8),(f9),(f10)⟩
  | 6,ho,hL,haf,hK =>
   cases ho
   (try dsimp only)
   rw [f7 (haf ⟨5,.data⟩ (by simp) rfl)];go_wp2_with fail;refine (TG.out wl (xt X3 X)).mono ?_;rintro rr w' ⟨⟨gg,rfl,hgg,OO⟩,E⟩;go_wp2_with fail;exact hK (fun jj=>if jj=37 then .slice (some ⟨gg,0,none⟩) NN NN else if jj=36 then .slice pv NN nv else lx jj) _ ⟨xt X E,(f0.later E),(f1.later E),(f2),(f3),(f4),(f5),(f6),(fun _=>rfl),(fun _=>⟨gg,rfl,OO⟩),(f9),(f10)⟩
  | 7,ho,hL,haf,hK =>
   cases ho
   (try dsimp only)
   obtain ⟨gg,q6,OO⟩:=f8 (haf ⟨6,.data⟩ (by simp) rfl);rw [f3 (haf ⟨1,.data⟩ (by simp) rfl),f4 (haf ⟨2,.data⟩ (by simp) rfl),f6 (haf ⟨4,.data⟩ (by simp) rfl),q6];go_wp2_with fail;refine (CS.out wl gg (xt X3 X) OO).mono ?_;rintro rr w' ⟨rfl,E⟩;go_wp2_with fail;exact hK (fun jj=>if jj=38 then .bool Q else if jj=32 then valV ak an ad ax at' else if jj=33 then sV op else if jj=35 then valV bk bn bd bx bt else if jj=37 then .slice (some ⟨gg,0,none⟩) NN NN else lx jj) _ ⟨xt X E,(f0.later E),(f1.later E),(f2),(fun _=>rfl),(fun _=>rfl),(f5),(fun _=>rfl),(f7),(fun _=>⟨gg,rfl,OO.later E⟩),(fun _=>rfl),(f10)⟩
  | 8,ho,hL,haf,hK =>
   cases ho
   (try dsimp only)
   rw [f9 (haf ⟨7,.data⟩ (by simp) rfl)];go_wp2_with fail;exact hK (fun jj=>if jj=10 then .bool Q else if jj=38 then .bool Q else lx jj) _ ⟨X,(f0),(f1),(f2),(f3),(f4),(f5),(f6),(f7),(f8),(fun _=>rfl),(fun _=>rfl)⟩
  | k+9,ho,_,_,_=>simp at ho
 ·intro L lx w4 hall hI;obtain ⟨XR,f0,f1,f2,f3,f4,f5,f6,f7,f8,f9,f10⟩:=hI.out;clear hI;obtain ⟨gg6,qq6,_⟩:=f8 (hall 6 (by simp))
  (try dsimp only)
  rw [f2 (hall 0 (by simp)),f3 (hall 1 (by simp)),f4 (hall 2 (by simp)),f5 (hall 3 (by simp)),f6 (hall 4 (by simp)),f7 (hall 5 (by simp)),qq6,f9 (hall 7 (by simp)),f10 (hall 8 (by simp))];clear hall f2 f3 f4 f5 f6 f7 f8 f9 f10 qq6;have X4:=xt X3 XR;have B4:=f0;have C4:=f1;clear f0 f1;clear B3 C3 X3 XR;go_wp2_with fail;refine (TG.out w4 X4).mono ?_;rintro e w5 ⟨⟨g2,rfl,hg2,O2⟩,e5⟩;have X5:=xt X4 e5;have B5:=B4.later e5;have C5:=C4.later e5;clear B4 C4 X4 e5;go_wp2_with fail;refine wp_region_letters (fun lx:Nat→Value=>{ tmps:=#[VT.val ⟨ak,an,ad,ax,at'⟩,sV op,VT.val ⟨bk,bn,bd,bx,bt⟩,Value.slice pv NN nv,Value.pointer (some ⟨w.heap.size,0,none⟩),undef,Value.pointer (some ⟨w.heap.size+1,0,none⟩),undef,Value.bool false,Value.int .i64 x,Value.bool Q,Value.slice (some ⟨g2,0,none⟩) NN NN,lx 12,sV op,Value.int .i64 (OL:Int),Value.bool false,Value.agg #[Value.int .i64 ak,Value.bool an,Value.int .i64 ad,Value.int .i64 ax,sV at'],Value.int .i64 1048576,Value.int .i64 z,Value.int .i64 z,Value.bool false,Value.agg #[Value.int .i64 bk,Value.bool bn,Value.int .i64 bd,Value.int .i64 bx,sV bt],Value.int .i64 z,Value.int .i64 y,Value.int .i64 y,Value.bool false,Value.slice pv NN nv,Value.int .i64 y,Value.int .i64 x,Value.int .i64 x,Value.bool false,valV ak an ad ax at',valV ak an ad ax at',sV op,valV bk bn bd bx bt,valV bk bn bd bx bt,Value.slice pv NN nv,Value.slice (some ⟨gg6,0,none⟩) NN NN,Value.bool Q,Value.slice pv NN nv,Value.slice (some ⟨g2,0,none⟩) NN NN,lx 41,lx 42,lx 43,lx 44,lx 45,lx 46,lx 47,undef,undef,undef,undef,undef,undef,undef,undef],defers:=[] }) (fun L lx lw=>Hid (Ext w5 lw∧Vec lw (w.heap.size) [.int .i64 ak,.bool an,.int .i64 ad,.int .i64 ax,sV at']∧Vec lw (w.heap.size+1) [.int .i64 bk,.bool bn,.int .i64 bd,.int .i64 bx,sV bt]∧OwnV lw g2 l∧(L 0=true→lx 41=valV ak an ad ax at')∧(L 1=true→lx 42=valV ak an ad ax at')∧(L 2=true→lx 43=sV op)∧(L 3=true→lx 44=valV bk bn bd bx bt)∧(L 4=true→lx 45=valV bk bn bd bx bt)∧(L 5=true→lx 46=.slice (some ⟨g2,0,none⟩) NN NN)∧(L 6=true→lx 47=.bool Q)∧(L 7=true→lx 12=.bool Q))) rfl (by kernel_rfl) (fun jj=>undef) rfl ?_ ?_ ?_
  ·exact ⟨xd (xr w5),B5.later (xd (xr _)),C5.later (xd (xr _)),O2.later (xd (xr _)),(fun h=>by cases h),(fun h=>by cases h),(fun h=>by cases h),(fun h=>by cases h),(fun h=>by cases h),(fun h=>by cases h),(fun h=>by cases h),(fun h=>by cases h)⟩
  ·intro L lx wl i o K hK ho hL haf hI;obtain ⟨X,f0,f1,f2,f3,f4,f5,f6,f7,f8,f9,f10⟩:=hI.out
   match i,ho,hL,haf,hK with
   | 0,ho,hL,haf,hK =>
    cases ho
    (try dsimp only)
    have a0:=(f0 0 _ rfl).1;have a1:=(f0 1 _ rfl).1;have a2:=(f0 2 _ rfl).1;have a3:=(f0 3 _ rfl).1;have a4:=(f0 4 _ rfl).1;go_wp2_with fail;exact hK (fun jj=>if jj=41 then valV ak an ad ax at' else lx jj) _ ⟨X,(f0),(f1),(f2),(fun _=>rfl),(f4),(f5),(f6),(f7),(f8),(f9),(f10)⟩
   | 1,ho,hL,haf,hK =>
    cases ho
    (try dsimp only)
    rw [f3 (haf ⟨0,.data⟩ (by simp) rfl)];go_wp2_with fail;refine (TA.out wl).mono ?_;rintro rr w' ⟨rfl,E⟩;go_wp2_with fail;exact hK (fun jj=>if jj=42 then valV ak an ad ax at' else if jj=41 then valV ak an ad ax at' else lx jj) _ ⟨xt X E,(f0.later E),(f1.later E),(f2.later E),(fun _=>rfl),(fun _=>rfl),(f5),(f6),(f7),(f8),(f9),(f10)⟩
   | 2,ho,hL,haf,hK =>
    cases ho
    (try dsimp only)
    go_wp2_with fail;exact hK (fun jj=>if jj=43 then sV op else lx jj) _ ⟨X,(f0),(f1),(f2),(f3),(f4),(fun _=>rfl),(f6),(f7),(f8),(f9),(f10)⟩
   | 3,ho,hL,haf,hK =>
    cases ho
    (try dsimp only)
    have a0:=(f1 0 _ rfl).1;have a1:=(f1 1 _ rfl).1;have a2:=(f1 2 _ rfl).1;have a3:=(f1 3 _ rfl).1;have a4:=(f1 4 _ rfl).1;go_wp2_with fail;exact hK (fun jj=>if jj=44 then valV bk bn bd bx bt else lx jj) _ ⟨X,(f0),(f1),(f2),(f3),(f4),(f5),(fun _=>rfl),(f7),(f8),(f9),(f10)⟩
   | 4,ho,hL,haf,hK =>
    cases ho
    (try dsimp only)
    rw [f6 (haf ⟨3,.data⟩ (by simp) rfl)];go_wp2_with fail;refine (TV.out wl).mono ?_;rintro rr w' ⟨rfl,E⟩;go_wp2_with fail;exact hK (fun jj=>if jj=45 then valV bk bn bd bx bt else if jj=44 then valV bk bn bd bx bt else lx jj) _ ⟨xt X E,(f0.later E),(f1.later E),(f2.later E),(f3),(f4),(f5),(fun _=>rfl),(fun _=>rfl),(f8),(f9),(f10)⟩
   | 5,ho,hL,haf,hK =>
    cases ho
    (try dsimp only)
    go_wp2_with fail;exact hK (fun jj=>if jj=46 then .slice (some ⟨g2,0,none⟩) NN NN else lx jj) _ ⟨X,(f0),(f1),(f2),(f3),(f4),(f5),(f6),(f7),(fun _=>rfl),(f9),(f10)⟩
   | 6,ho,hL,haf,hK =>
    cases ho
    (try dsimp only)
    rw [f4 (haf ⟨1,.data⟩ (by simp) rfl),f5 (haf ⟨2,.data⟩ (by simp) rfl),f7 (haf ⟨4,.data⟩ (by simp) rfl),f8 (haf ⟨5,.data⟩ (by simp) rfl)];go_wp2_with fail;refine (CI.out wl g2 (xt X5 X) f2).mono ?_;rintro rr w' ⟨rfl,E⟩;go_wp2_with fail;exact hK (fun jj=>if jj=47 then .bool Q else if jj=42 then valV ak an ad ax at' else if jj=43 then sV op else if jj=45 then valV bk bn bd bx bt else if jj=46 then .slice (some ⟨g2,0,none⟩) NN NN else lx jj) _ ⟨xt X E,(f0.later E),(f1.later E),(f2.later E),(f3),(fun _=>rfl),(fun _=>rfl),(f6),(fun _=>rfl),(fun _=>rfl),(fun _=>rfl),(f10)⟩
   | 7,ho,hL,haf,hK =>
    cases ho
    (try dsimp only)
    rw [f9 (haf ⟨6,.data⟩ (by simp) rfl)];go_wp2_with fail;exact hK (fun jj=>if jj=12 then .bool Q else if jj=47 then .bool Q else lx jj) _ ⟨X,(f0),(f1),(f2),(f3),(f4),(f5),(f6),(f7),(f8),(fun _=>rfl),(fun _=>rfl)⟩
   | k+8,ho,_,_,_=>simp at ho
  ·intro L lx w6 hall hI;obtain ⟨XR,f0,f1,f2,f3,f4,f5,f6,f7,f8,f9,f10⟩:=hI.out;clear hI
   (try dsimp only)
   rw [f3 (hall 0 (by simp)),f4 (hall 1 (by simp)),f5 (hall 2 (by simp)),f6 (hall 3 (by simp)),f7 (hall 4 (by simp)),f8 (hall 5 (by simp)),f9 (hall 6 (by simp)),f10 (hall 7 (by simp))];clear hall f3 f4 f5 f6 f7 f8 f9 f10;have X6:=xt X5 XR;have O6:=f2;clear f0 f1 f2;clear B5 C5 O2 X5 XR;go_wp2_with fail;refine (TG.out w6 X6).mono ?_;rintro e w7 ⟨⟨g3,rfl,hg3,O7⟩,e7⟩;have X7:=xt X6 e7;go_wp2_with fail;refine (EG.out w7 g2 g3 (O6.later e7) O7).mono ?_;rintro e w8 ⟨rfl,e8⟩;have X8:=xt X7 e8;go_wp2_with fail;go_ret;exact ⟨rfl,X8⟩
end Go.Proofs.YtiaakhogigddbaaGreatDoor

