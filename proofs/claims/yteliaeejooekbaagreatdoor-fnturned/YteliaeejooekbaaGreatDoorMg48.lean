import Derived.Test.YteliaeejooekbaaGreatDoorMg10
import Derived.Test.YteliaeejooekbaaGreatDoorMg46
import Derived.Test.YteliaeejooekbaaGreatDoorMg47
import Derived.Test.YteliaeejooekbaaGreatDoorMg32
set_option maxRecDepth 8000
set_option maxHeartbeats 40000000
namespace Go.Proofs.YteliaeejooekbaaGreatDoor
open Go.RowKit
theorem zV2 (D D1:Int) (m M z B B':Nat) (hM:3 * m+20<=M) (hD1:IntKind.i64.wrap (D - 1)=D1) (hB:B+3 * z+500<=B') (hB':B'<=900000) (IH0:¬ D=0->∀ (b base K:Nat) (w:World),Cur w b base K->K<=B'->Calls Tryz.prog 57 #[.pointer (some ⟨b,0,none⟩),iQ D1] w fun e w'=>zAE m b base (K+z) w e w')
  (b base K:Nat) (w wk:World) (bl:b<w.heap.size) (bb:base<=b) (hK:K<=B) (k:Int) (hk5:D=0->k<=5) (V0:Vec wk w.heap.size Z15) (C1:Cur wk b base (K+4)) (O1:Only b w wk) (hG:11<=k)
  {u14 u15 u16 u17 u18 u19 u20 u21 u22 u23 u26 u27 u28 u29 u31 u32 u33 u34 u35 u36 u38 u39 u40 u41 u42 u43 u44 u46 u47 u48 u49 u50 u51 u52 u54 u55 u56 u57 u58 u59 u60 u62 u63 u64 u65 u66 u67 u68 u70 u71 u72 u73 u74 u75 u76 u77 u78 u79 u80 u81 u82 u83 u84 u85 u86 u87 u88 u89 u90 u91 u92 u93 u94 u95 u96 u97 u98 u99 u100 u101 u102 u103 u105 u106 u107 u108 u109 u110 u111 u112 u113 u114 u115 u116 u117 u118 u119 u120 u121 u122 u123 u124 u125 u126 u127 u128 u129 u130 u131 u132 u133 u134 u135 u136 u137 u138 u139 u140 u141 u142 u143 u144 u145 u146 u147 u148 u149 u150 u151 u152 u153:Value} :
  Code.wp Tryz.prog zBT (bodyPost Tryz.prog Tryz.f57 fun e w'=>zAE M b base (K+3 * z+500) w e w') { tmps:=#[Value.pointer (some ⟨b,0,none⟩),Value.int .i64 D,undef,undef,Value.pointer (some ⟨w.heap.size,0,none⟩),Value.int .i64 k,undef,undef,undef,undef,undef,undef,undef,undef,u14,u15,u16,u17,u18,u19,u20,u21,u22,u23,undef,undef,u26,u27,u28,u29,undef,u31,u32,u33,u34,u35,u36,undef,u38,u39,u40,u41,u42,u43,u44,undef,u46,u47,u48,u49,u50,u51,u52,undef,u54,u55,u56,u57,u58,u59,u60,undef,u62,u63,u64,u65,u66,u67,u68,undef,u70,u71,u72,u73,u74,u75,u76,u77,u78,u79,u80,u81,u82,u83,u84,u85,u86,u87,u88,u89,u90,u91,u92,u93,u94,u95,u96,u97,u98,u99,u100,u101,u102,u103,undef,u105,u106,u107,u108,u109,u110,u111,u112,u113,u114,u115,u116,u117,u118,u119,u120,u121,u122,u123,u124,u125,u126,u127,u128,u129,u130,u131,u132,u133,u134,u135,u136,u137,u138,u139,u140,u141,u142,u143,u144,u145,u146,u147,u148,u149,u150,u151,u152,u153],defers:=[] } wk:=by
 have lk:w.heap.size<wk.heap.size:=World.block_lt_of_cell? _ _ (V0 0 _ rfl).1;have hkD:Hid _:=hk5;have IH:Hid _:=IH0;have HD1:Hid _:=hD1;clear hk5 IH0;obtain ⟨P,hP⟩:=nm (bodyPost Tryz.prog Tryz.f57 (fun e w'=>zAE M b base (K+3 * z+500) w e w'));rw [hP];unfold zBT;dsimp only [sndC,zKE,Tryz.f57];subst hP;have e0:(k == 0)=false:=by simp;omega
 have e1:(k == 1)=false:=by simp;omega
 have e2:(k == 2)=false:=by simp;omega
 have e3:(k == 3)=false:=by simp;omega
 have e4:(k == 4)=false:=by simp;omega
 have e5:(k == 5)=false:=by simp;omega
 have e6:(k == 6)=false:=by simp;omega
 have e7:(k == 7)=false:=by simp;omega
 have e8:(k == 8)=false:=by simp;omega
 have e9:(k == 9)=false:=by simp;omega
 have e10:(k == 10)=false:=by simp;omega
 have hD0:¬ D=0:=fun e=>by have:=hkD.out e;omega
 have IC:=IH.out hD0 b base _ wk C1 (by omega);go_wp2_with fail;refine IC.mono ?_;rintro e w3 ⟨⟨x,ks,s,rfl,hf,hk⟩,C1,o1⟩;obtain ⟨p,cap,rfl,_⟩:=hk.slice;have hk:zBI w3 wk.heap.size w3.heap.size _ ks:=⟨hk,Nat.le_refl _⟩;have l3:=o1.size;have V0:=o1.vecC (by omega) V0;have O1:=O1.trans o1;clear o1;have E:=x1 w3 (.cells (x.exL (.slice p ks.length cap)).toArray 77);have VX:=zA4 w3 (x.exL (.slice p ks.length cap)) 77;have C1:=C1.ext E;have V0:=V0.l E;have O1:=O1.e E;have hk:=hk.ext E;have ss:(w3.alloc (.cells (x.exL (.slice p ks.length cap)).toArray 77)).heap.size=w3.heap.size+1:=World.size_alloc _ _;obtain ⟨ws,hs⟩:=nm (w3.alloc (.cells (x.exL (.slice p ks.length cap)).toArray 77));have HS:Hid _:=hs;rw [hs] at C1 V0 O1 VX hk ss;clear E hs IC;go_upto_region 42 with fail;rw [HS.out];obtain ⟨gX,hgX⟩:=nm (w3.heap.size);obtain ⟨lo,hlo⟩:=nm (wk.heap.size);rw [hgX] at VX ss hk l3 ⊢;rw [hlo] at hk lk l3;obtain ⟨K1,hK1⟩:=nm (K+4+z);have HK1:Hid _:=hK1;have C1:Cur ws b base (K1+0):=by rw [<- hK1];exact C1
 have hKB:K1<=B+4+z:=by omega
 have HR:Hid (OpJ w b base (K1+0) gX lo gX x (.slice p ks.length cap) ks ws):=⟨V0,C1,O1,VX,hk,bl,⟨lk,by omega,by omega,bb⟩⟩;have KQ:Hid (K1+z+2<=K+3 * z+500):=by show _<=_;omega
 clear V0 C1 O1 VX hk HS hgX hlo hK1 l3 ss;refine zA5 (fun lx:Nat->Value=>{ tmps:=#[Value.pointer (some ⟨b,0,none⟩),Value.int .i64 D,undef,undef,Value.pointer (some ⟨w.heap.size,0,none⟩),Value.int .i64 k,undef,undef,undef,undef,undef,undef,undef,Value.pointer (some ⟨gX,0,none⟩),u14,u15,u16,u17,u18,u19,u20,u21,u22,u23,Value.int .i64 k,Value.bool false,Value.bool false,Value.bool false,u28,u29,Value.bool false,Value.bool false,Value.bool false,u33,u34,u35,u36,Value.bool false,Value.bool false,u39,u40,u41,u42,u43,u44,Value.bool false,Value.bool false,u47,u48,u49,u50,u51,u52,Value.bool false,Value.bool false,u55,u56,u57,u58,u59,u60,Value.bool false,Value.bool false,u63,u64,u65,u66,u67,u68,Value.bool false,Value.bool false,u71,u72,u73,u74,u75,u76,u77,u78,u79,u80,u81,u82,u83,u84,u85,u86,u87,u88,u89,u90,u91,u92,u93,u94,u95,u96,u97,u98,u99,u100,u101,u102,u103,Value.bool false,Value.bool false,Value.bool false,u107,u108,u109,u110,u111,u112,u113,u114,u115,u116,u117,u118,u119,u120,u121,u122,u123,u124,u125,u126,u127,u128,u129,u130,u131,u132,u133,u134,u135,u136,u137,Value.pointer (some ⟨b,0,none⟩),Value.int .i64 D,Value.int .i64 D1,Value.agg #[Value.int .i64 x.k,sV x.t,Value.bool x.n,Value.int .i64 x.d,Value.int .i64 x.x,Value.int .i64 x.r,Value.int .i64 x.c,Value.bool x.f,Value.bool x.g,Value.int .i64 x.r2,Value.int .i64 x.c2,Value.bool x.f2,Value.bool x.g2,Value.int .i64 x.q,Value.slice p ks.length cap],lx 142,lx 143,lx 144,lx 145,lx 146,lx 147,lx 148,lx 149,lx 150,lx 151,lx 152,lx 153],defers:=[] }) (fun L lx lw=>Hid ((L 12=false->OpJ w b base (K1+kcT z L) gX lo gX x (.slice p ks.length cap) ks lw)/\(L 0=true->∃ g,lx 142=.slice (some ⟨g,0,none⟩) 12 12/\g ≠ b/\(L 12=false->Vec lw g (opsL.map sV)))/\(L 1=true->lx 143=.pointer (some ⟨b,0,none⟩))/\(L 2=true->∃ u:Nat,lx 144=iQ (u:Int)/\u<12)/\(L 3=true->∃ (g u:Nat) (t:List UInt8),lx 145=.pointer (some ⟨g,u,none⟩)/\t.length<=100/\g ≠ b/\(L 12=false->lw.cell? ⟨g,u,none⟩=some (sV t)))/\(L 4=true->∃ t:List UInt8,lx 146=sV t/\t.length<=100)/\(L 5=true->lx 147=.agg #[iQ x.k,sV x.t,.bool x.n,iQ x.d,iQ x.x,iQ x.r,iQ x.c,.bool x.f,.bool x.g,iQ x.r2,iQ x.c2,.bool x.f2,.bool x.g2,iQ x.q,.slice p ks.length cap])/\(L 6=true->lx 148=.pointer (some ⟨b,0,none⟩))/\(L 7=true->lx 149=iQ D)/\(L 8=true->lx 150=iQ D1)/\(L 9=true->∃ (y:NT) (ls:List ET) (p2:Option Addr) (n2 c2 lo2 hi2:Nat),lx 151=.agg #[iQ y.k,sV y.t,.bool y.n,iQ y.d,iQ y.x,iQ y.r,iQ y.c,.bool y.f,.bool y.g,iQ y.r2,iQ y.c2,.bool y.f2,.bool y.g2,iQ y.q,.slice p2 n2 c2]/\FitL m (zBN (.mk y ls))/\w.heap.size<lo2/\(L 12=false->zBI lw lo2 hi2 (.slice p2 n2 c2) ls))/\(L 10=true->∃ (gB:Nat) (ks2:List ET),lx 152=.slice (some ⟨gB,0,none⟩) 2 2/\FitL (2 * m) (zAO ks2)/\ks2.length=2/\(L 12=false->∃ hi3,zBI lw (w.heap.size+1) hi3 (.slice (some ⟨gB,0,none⟩) 2 2) ks2))/\(L 11=true->∃ (gB:Nat) (ks2:List ET) (t:List UInt8),lx 153=.agg #[iQ 10,sV t,.bool false,iQ 0,iQ 0,iQ 0,iQ 0,.bool false,.bool false,iQ 0,iQ 0,.bool false,.bool false,iQ ((2:Nat):Int),.slice (some ⟨gB,0,none⟩) 2 2]/\t.length<=100/\FitL (2 * m) (zAO ks2)/\ks2.length=2/\(L 12=false->∃ hi3,zBI lw (w.heap.size+1) hi3 (.slice (some ⟨gB,0,none⟩) 2 2) ks2))/\(L 12=true->∃ (gB:Nat) (t:List UInt8),(∀ i u,([iQ 10,sV t,.bool false,iQ 0,iQ 0,iQ 0,iQ 0,.bool false,.bool false,iQ 0,iQ 0,.bool false,.bool false,iQ ((2:Nat):Int),.slice (some ⟨gB,0,none⟩) 2 2]:List Value)[i]?=some u->lw.cell? ⟨w.heap.size,i,none⟩=some u)/\zAE M b base (K+3 * z+500) w (.returned (.agg #[iQ 10,sV t,.bool false,iQ 0,iQ 0,iQ 0,iQ 0,.bool false,.bool false,iQ 0,iQ 0,.bool false,.bool false,iQ ((2:Nat):Int),.slice (some ⟨gB,0,none⟩) 2 2])) lw))) rfl (by kernel_rfl) (fun jj=>if jj=142 then u142 else if jj=143 then u143 else if jj=144 then u144 else if jj=145 then u145 else if jj=146 then u146 else if jj=147 then u147 else if jj=148 then u148 else if jj=149 then u149 else if jj=150 then u150 else if jj=151 then u151 else if jj=152 then u152 else if jj=153 then u153 else undef) rfl ?_ ?_ ?_
 ·have R0:=HR.out;exact ⟨(fun _=>R0.turn (Only.of_ext (xd (xr _))) (R0.cur.ext (xd (xr _)))),(fun h=>by cases h),(fun h=>by cases h),(fun h=>by cases h),(fun h=>by cases h),(fun h=>by cases h),(fun h=>by cases h),(fun h=>by cases h),(fun h=>by cases h),(fun h=>by cases h),(fun h=>by cases h),(fun h=>by cases h),(fun h=>by cases h),(fun h=>by cases h)⟩
 ·intro L lx wl i o K0 hK ho hL haf hI hcl;obtain ⟨R,f0,f1,f2,f3,f4,f5,f6,f7,f8,f9,f10,f11,f12⟩:=hI.out
  match i,ho,hL,haf,hK with
  | 0,ho,hL,haf,hK =>
   cases ho
   (try dsimp only)
   have hA:L 12=false:=hcl.bars (i:=12) (j:=0) [11,4,3,0] hL (by kernel_rfl) rfl;refine ip (by rfl) ?_;go_wp2_with fail;have RA:=R hA;have bl2:=RA.bl;refine (opsN wl).mono ?_;rintro e w' ⟨g,rfl,VG,hg,E⟩;have gb:g ≠ b:=by have:=RA.only.size;omega
   have CC:=RA.cur.ext E;have o1:=Only.of_ext (b:=b) E;go_wp2_with fail;exact hK (fun jj=>if jj=142 then .slice (some ⟨g,0,none⟩) 12 12 else lx jj) _ ⟨(fun h=>by rw [kcT0 (by decide) (by decide)];exact (R h).turn o1 CC),(fun _=>⟨g,rfl,gb,fun _=>VG⟩),f1,f2,(fun h=>by obtain ⟨g,u,t,h1,h2,h3,h4⟩:=f3 h;exact ⟨g,u,t,h1,h2,h3,fun hA=>o1.cell h3 (h4 hA)⟩),f4,f5,f6,f7,f8,(fun h=>by obtain ⟨y,ls,p2,n2,c2,lo2,hi2,h1,h2,h3,h4⟩:=f9 h;exact ⟨y,ls,p2,n2,c2,lo2,hi2,h1,h2,h3,fun hA=>(h4 hA).only o1 (by omega)⟩),(fun h=>by obtain ⟨gB,ks2,h1,h2,h3,h4⟩:=f10 h;exact ⟨gB,ks2,h1,h2,h3,fun hA=>by obtain ⟨hi3,h5⟩:=h4 hA;exact ⟨hi3,h5.only o1 (by omega)⟩⟩),(fun h=>by obtain ⟨gB,ks2,t,h1,h2,h3,h4,h5⟩:=f11 h;exact ⟨gB,ks2,t,h1,h2,h3,h4,fun hA=>by obtain ⟨hi3,h6⟩:=h5 hA;exact ⟨hi3,h6.only o1 (by omega)⟩⟩),(fun h=>absurd (show L 12=true from h) (by rw [hA];exact Bool.false_ne_true))⟩
  | 1,ho,hL,haf,hK =>
   cases ho
   (try dsimp only)
   refine ip (by rfl) ?_;go_wp2_with fail;exact hK (fun jj=>if jj=143 then .pointer (some ⟨b,0,none⟩) else lx jj) _ ⟨R,f0,(fun _=>rfl),f2,f3,f4,f5,f6,f7,f8,f9,f10,f11,f12⟩
  | 2,ho,hL,haf,hK =>
   cases ho
   (try dsimp only)
   have hA:L 12=false:=hcl.bars (i:=12) (j:=2) [11,4,3,2] hL (by kernel_rfl) rfl;rw [f1 (haf ⟨1,.data⟩ (by simp) rfl)];refine ip (by rfl) ?_;go_wp2_with fail;have RA:=R hA;have bl2:=RA.bl;have kle:=zOK z L;refine (zAV b base _ 12 wl RA.cur (by omega) (by omega) (by omega)).mono ?_;rintro e w' ⟨u,rfl,⟨u0,u9⟩,CC,o1⟩;obtain ⟨u,rfl⟩:∃ n:Nat,u=(n:Int):=⟨u.toNat,by omega⟩;go_wp2_with fail;exact hK (fun jj=>if jj=144 then iQ (u:Int) else if jj=143 then .pointer (some ⟨b,0,none⟩) else lx jj) _ ⟨(fun h=>by rw [kcT2 hL,<- Nat.add_assoc];exact (R h).turn o1 CC),(fun h=>by obtain ⟨g,h1,h2,h3⟩:=f0 h;exact ⟨g,h1,h2,fun hA=>o1.vecC h2 (h3 hA)⟩),(fun _=>rfl),(fun _=>⟨u,rfl,by omega⟩),(fun h=>by obtain ⟨g,u,t,h1,h2,h3,h4⟩:=f3 h;exact ⟨g,u,t,h1,h2,h3,fun hA=>o1.cell h3 (h4 hA)⟩),f4,f5,f6,f7,f8,(fun h=>by obtain ⟨y,ls,p2,n2,c2,lo2,hi2,h1,h2,h3,h4⟩:=f9 h;exact ⟨y,ls,p2,n2,c2,lo2,hi2,h1,h2,h3,fun hA=>(h4 hA).only o1 (by omega)⟩),(fun h=>by obtain ⟨gB,ks2,h1,h2,h3,h4⟩:=f10 h;exact ⟨gB,ks2,h1,h2,h3,fun hA=>by obtain ⟨hi3,h5⟩:=h4 hA;exact ⟨hi3,h5.only o1 (by omega)⟩⟩),(fun h=>by obtain ⟨gB,ks2,t,h1,h2,h3,h4,h5⟩:=f11 h;exact ⟨gB,ks2,t,h1,h2,h3,h4,fun hA=>by obtain ⟨hi3,h6⟩:=h5 hA;exact ⟨hi3,h6.only o1 (by omega)⟩⟩),(fun h=>absurd (show L 12=true from h) (by rw [hA];exact Bool.false_ne_true))⟩
  | 3,ho,hL,haf,hK =>
   cases ho
   (try dsimp only)
   have hA:L 12=false:=hcl.bars (i:=12) (j:=3) [11,4,3] hL (by kernel_rfl) rfl;obtain ⟨g,eg,hgb,hv⟩:=f0 (haf ⟨0,.data⟩ (by simp) rfl);obtain ⟨u,eu,hu⟩:=f2 (haf ⟨2,.data⟩ (by simp) rfl);rw [eg,eu];refine ip (by rfl) ?_;have i0:(u:Int)<12:=by omega
   obtain ⟨t,ht,tl⟩:=zGI (l:=opsL) (u:=u) (by show u<12;omega) zTD;have cu:=((hv hA) u _ ht).1;go_wp2_with fail;exact hK (fun jj=>if jj=145 then .pointer (some ⟨g,u,none⟩) else if jj=142 then .slice (some ⟨g,0,none⟩) 12 12 else if jj=144 then iQ (u:Int) else lx jj) _ ⟨R,(fun _=>⟨g,rfl,hgb,hv⟩),f1,(fun _=>⟨u,rfl,hu⟩),(fun _=>⟨g,u,t,rfl,tl,hgb,fun _=>cu⟩),f4,f5,f6,f7,f8,f9,f10,f11,f12⟩
  | 4,ho,hL,haf,hK =>
   cases ho
   (try dsimp only)
   have hA:L 12=false:=hcl.bars (i:=12) (j:=4) [11,4] hL (by kernel_rfl) rfl;obtain ⟨g,u,t,eg,tl,hgb,hc⟩:=f3 (haf ⟨3,.data⟩ (by simp) rfl);rw [eg];refine ip (by rfl) ?_;have cu:=hc hA;go_wp2_with fail;exact hK (fun jj=>if jj=146 then sV t else if jj=145 then .pointer (some ⟨g,u,none⟩) else lx jj) _ ⟨R,f0,f1,f2,(fun _=>⟨g,u,t,rfl,tl,hgb,hc⟩),(fun _=>⟨t,rfl,tl⟩),f5,f6,f7,f8,f9,f10,f11,f12⟩
  | 5,ho,hL,haf,hK =>
   cases ho
   (try dsimp only)
   have hA:L 12=false:=hcl.bars (i:=12) (j:=5) [11,10,5] hL (by kernel_rfl) rfl;have VR:wl.rangeAt gX 0 (x.exL (.slice p ks.length cap)):=fun c u hu=>by rw [Nat.zero_add];exact ((R hA).vx c u hu).1
   refine ip (by rfl) ?_;go_wp2_with (refine wpList_load_mid rfl 77 (.tmp 13) rfl gX 0 rfl _ _ VR Tryz.underlying77 rfl zDJ ?_);exact hK (fun jj=>if jj=147 then .agg #[iQ x.k,sV x.t,.bool x.n,iQ x.d,iQ x.x,iQ x.r,iQ x.c,.bool x.f,.bool x.g,iQ x.r2,iQ x.c2,.bool x.f2,.bool x.g2,iQ x.q,.slice p ks.length cap] else lx jj) _ ⟨R,f0,f1,f2,f3,f4,(fun _=>rfl),f6,f7,f8,f9,f10,f11,f12⟩
  | 6,ho,hL,haf,hK =>
   cases ho
   (try dsimp only)
   refine ip (by rfl) ?_;go_wp2_with fail;exact hK (fun jj=>if jj=148 then .pointer (some ⟨b,0,none⟩) else lx jj) _ ⟨R,f0,f1,f2,f3,f4,f5,(fun _=>rfl),f7,f8,f9,f10,f11,f12⟩
  | 7,ho,hL,haf,hK =>
   cases ho
   (try dsimp only)
   refine ip (by rfl) ?_;go_wp2_with fail;exact hK (fun jj=>if jj=149 then iQ D else lx jj) _ ⟨R,f0,f1,f2,f3,f4,f5,f6,(fun _=>rfl),f8,f9,f10,f11,f12⟩
  | 8,ho,hL,haf,hK =>
   cases ho
   (try dsimp only)
   rw [f7 (haf ⟨7,.data⟩ (by simp) rfl)];refine ip (by rfl) ?_;go_wp2_with fail;exact hK (fun jj=>if jj=150 then iQ D1 else if jj=149 then iQ D else lx jj) _ ⟨R,f0,f1,f2,f3,f4,f5,f6,(fun _=>rfl),(fun _=>rfl),f9,f10,f11,f12⟩
  | 9,ho,hL,haf,hK =>
   cases ho
   (try dsimp only)
   have hA:L 12=false:=hcl.bars (i:=12) (j:=9) [11,10,9] hL (by kernel_rfl) rfl;rw [f6 (haf ⟨6,.data⟩ (by simp) rfl),f8 (haf ⟨8,.data⟩ (by simp) rfl)];refine ip (by rfl) ?_;go_wp2_with fail;have RA:=R hA;have bl2:=RA.bl;have kle:=zOK z L;refine (IH.out hD0 b base _ wl RA.cur (by omega)).mono ?_;rintro e w' ⟨⟨y,ls,s2,rfl,hfy,hky⟩,CC,o1⟩;obtain ⟨p2,c2,rfl,_⟩:=hky.slice;have hky:zBI w' wl.heap.size w'.heap.size _ ls:=⟨hky,Nat.le_refl _⟩;go_wp2_with fail;exact hK (fun jj=>if jj=151 then .agg #[iQ y.k,sV y.t,.bool y.n,iQ y.d,iQ y.x,iQ y.r,iQ y.c,.bool y.f,.bool y.g,iQ y.r2,iQ y.c2,.bool y.f2,.bool y.g2,iQ y.q,.slice p2 ls.length c2] else if jj=148 then .pointer (some ⟨b,0,none⟩) else if jj=150 then iQ D1 else lx jj) _ ⟨(fun h=>by rw [kcT9 hL,<- Nat.add_assoc];exact (R h).turn o1 CC),(fun h=>by obtain ⟨g,h1,h2,h3⟩:=f0 h;exact ⟨g,h1,h2,fun hA=>o1.vecC h2 (h3 hA)⟩),f1,f2,(fun h=>by obtain ⟨g,u,t,h1,h2,h3,h4⟩:=f3 h;exact ⟨g,u,t,h1,h2,h3,fun hA=>o1.cell h3 (h4 hA)⟩),f4,f5,(fun _=>rfl),f7,(fun _=>rfl),(fun _=>⟨y,ls,p2,_,c2,wl.heap.size,w'.heap.size,rfl,hfy,RA.sz,fun _=>hky⟩),(fun h=>by obtain ⟨gB,ks2,h1,h2,h3,h4⟩:=f10 h;exact ⟨gB,ks2,h1,h2,h3,fun hA=>by obtain ⟨hi3,h5⟩:=h4 hA;exact ⟨hi3,h5.only o1 (by omega)⟩⟩),(fun h=>by obtain ⟨gB,ks2,t,h1,h2,h3,h4,h5⟩:=f11 h;exact ⟨gB,ks2,t,h1,h2,h3,h4,fun hA=>by obtain ⟨hi3,h6⟩:=h5 hA;exact ⟨hi3,h6.only o1 (by omega)⟩⟩),(fun h=>absurd (show L 12=true from h) (by rw [hA];exact Bool.false_ne_true))⟩
  | 10,ho,hL,haf,hK =>
   cases ho
   (try dsimp only)
   have hA:L 12=false:=hcl.bars (i:=12) (j:=10) [11,10] hL (by kernel_rfl) rfl;obtain ⟨y,ls,p2,n2,c2,lo2,hi2,ey,hfy,hlo,hky⟩:=f9 (haf ⟨9,.data⟩ (by simp) rfl);rw [f5 (haf ⟨5,.data⟩ (by simp) rfl),ey];refine ip (by rfl) ?_;have RA:=R hA;have bl2:=RA.bl;have lt2:=RA.lt;have sz2:=RA.sz;have E:=x1 wl (.cells (x.exL (.slice p ks.length cap)++y.exL (.slice p2 n2 c2)).toArray 77);have V2:=zA4 wl (x.exL (.slice p ks.length cap)++y.exL (.slice p2 n2 c2)) 77;have CC:=RA.cur.ext E;have o1:=Only.of_ext (b:=b) E;have kx:=RA.kk.ext E;have ky:=(hky hA).ext E;have ss:(wl.alloc (.cells (x.exL (.slice p ks.length cap)++y.exL (.slice p2 n2 c2)).toArray 77)).heap.size=wl.heap.size+1:=World.size_alloc _ _;have FT2:FitL (2 * m) (zAO [.mk x ks,.mk y ls]):=by
    rw [zAO,zCU,Nat.two_mul];exact hf.app hfy
   obtain ⟨w',hw'⟩:=nm (wl.alloc (.cells (x.exL (.slice p ks.length cap)++y.exL (.slice p2 n2 c2)).toArray 77));rw [hw'] at V2 CC o1 kx ky ss;simp only [NT.exL,List.cons_append,List.nil_append] at hw';have HW':Hid _:=hw';have KB:zBI w' (w.heap.size+1) w'.heap.size (.slice (some ⟨wl.heap.size,0,none⟩) 2 2) [.mk x ks,.mk y ls]:=⟨zR2 V2 ⟨by omega,by omega⟩ (kx.wide (by omega) (by have:=kx.2;omega)) (ky.wide (by omega) (by have:=ky.2;omega)),Nat.le_refl _⟩;clear hw' E V2;go_wp2_with fail;rw [HW'.out];exact hK (fun jj=>if jj=152 then .slice (some ⟨wl.heap.size,0,none⟩) 2 2 else if jj=147 then .agg #[iQ x.k,sV x.t,.bool x.n,iQ x.d,iQ x.x,iQ x.r,iQ x.c,.bool x.f,.bool x.g,iQ x.r2,iQ x.c2,.bool x.f2,.bool x.g2,iQ x.q,.slice p ks.length cap] else if jj=151 then .agg #[iQ y.k,sV y.t,.bool y.n,iQ y.d,iQ y.x,iQ y.r,iQ y.c,.bool y.f,.bool y.g,iQ y.r2,iQ y.c2,.bool y.f2,.bool y.g2,iQ y.q,.slice p2 n2 c2] else lx jj) _ ⟨(fun h=>by rw [kcT0 (by decide) (by decide)];exact (R h).turn o1 CC),(fun h=>by obtain ⟨g,h1,h2,h3⟩:=f0 h;exact ⟨g,h1,h2,fun hA=>o1.vecC h2 (h3 hA)⟩),f1,f2,(fun h=>by obtain ⟨g,u,t,h1,h2,h3,h4⟩:=f3 h;exact ⟨g,u,t,h1,h2,h3,fun hA=>o1.cell h3 (h4 hA)⟩),f4,(fun _=>rfl),f6,f7,f8,(fun _=>⟨y,ls,p2,n2,c2,lo2,hi2,rfl,hfy,hlo,fun hA=>(hky hA).only o1 (by omega)⟩),(fun _=>⟨wl.heap.size,[.mk x ks,.mk y ls],rfl,FT2,rfl,fun _=>⟨_,KB⟩⟩),(fun h=>by obtain ⟨gB,ks2,t,h1,h2,h3,h4,h5⟩:=f11 h;exact ⟨gB,ks2,t,h1,h2,h3,h4,fun hA=>by obtain ⟨hi3,h6⟩:=h5 hA;exact ⟨hi3,h6.only o1 (by omega)⟩⟩),(fun h=>absurd (show L 12=true from h) (by rw [hA];exact Bool.false_ne_true))⟩
  | 11,ho,hL,haf,hK =>
   cases ho
   (try dsimp only)
   have hA:L 12=false:=hcl.bars (i:=12) (j:=11) [11] hL (by kernel_rfl) rfl;obtain ⟨t,et,tl⟩:=f4 (haf ⟨4,.data⟩ (by simp) rfl);obtain ⟨gB,ks2,e2,hf2,hl2,hkr⟩:=f10 (haf ⟨10,.data⟩ (by simp) rfl);rw [et,e2];refine ip (by rfl) ?_;go_wp2_with fail;have RA:=R hA;have bl2:=RA.bl;refine (zD0 10 t (some ⟨gB,0,none⟩) 2 2 wl).mono ?_;rintro e w' ⟨rfl,E⟩;have CC:=RA.cur.ext E;have o1:=Only.of_ext (b:=b) E;go_wp2_with fail;exact hK (fun jj=>if jj=153 then .agg #[iQ 10,sV t,.bool false,iQ 0,iQ 0,iQ 0,iQ 0,.bool false,.bool false,iQ 0,iQ 0,.bool false,.bool false,iQ ((2:Nat):Int),.slice (some ⟨gB,0,none⟩) 2 2] else if jj=146 then sV t else if jj=152 then .slice (some ⟨gB,0,none⟩) 2 2 else lx jj) _ ⟨(fun h=>by rw [kcT0 (by decide) (by decide)];exact (R h).turn o1 CC),(fun h=>by obtain ⟨g,h1,h2,h3⟩:=f0 h;exact ⟨g,h1,h2,fun hA=>o1.vecC h2 (h3 hA)⟩),f1,f2,(fun h=>by obtain ⟨g,u,t,h1,h2,h3,h4⟩:=f3 h;exact ⟨g,u,t,h1,h2,h3,fun hA=>o1.cell h3 (h4 hA)⟩),(fun _=>⟨t,rfl,tl⟩),f5,f6,f7,f8,(fun h=>by obtain ⟨y,ls,p2,n2,c2,lo2,hi2,h1,h2,h3,h4⟩:=f9 h;exact ⟨y,ls,p2,n2,c2,lo2,hi2,h1,h2,h3,fun hA=>(h4 hA).only o1 (by omega)⟩),(fun _=>⟨gB,ks2,rfl,hf2,hl2,fun hA=>by obtain ⟨hi3,h5⟩:=hkr hA;exact ⟨hi3,h5.only o1 (by omega)⟩⟩),(fun _=>⟨gB,ks2,t,rfl,tl,hf2,hl2,fun hA=>by obtain ⟨hi3,h5⟩:=hkr hA;exact ⟨hi3,h5.only o1 (by omega)⟩⟩),(fun h=>absurd (show L 12=true from h) (by rw [hA];exact Bool.false_ne_true))⟩
  | 12,ho,hL,haf,hK =>
   cases ho
   (try dsimp only)
   obtain ⟨gB,ks2,t,e3,tl,hf2,hl2,hkr⟩:=f11 (haf ⟨11,.data⟩ (by simp) rfl);rw [e3];refine ip (by rfl) ?_;have RA:=R hL;have bl2:=RA.bl;have kle:=zOK z L;obtain ⟨hi3,hk3⟩:=hkr hL;obtain ⟨wy,hy,VT,OF,CF,QC,SZ,KP⟩:=zFO RA.vz RA.cur RA.only (Nat.le_refl _) (by omega) (by omega) (⟨10,t,false,0,0,0,0,false,false,0,0,false,false,((2:Nat):Int)⟩:NT) (.slice (some ⟨gB,0,none⟩) 2 2);have HQ2:Hid _:=hy;have PO:Hid (zAE M b base (K+3 * z+500) w (.returned (.agg #[iQ 10,sV t,.bool false,iQ 0,iQ 0,iQ 0,iQ 0,.bool false,.bool false,iQ 0,iQ 0,.bool false,.bool false,iQ ((2:Nat):Int),.slice (some ⟨gB,0,none⟩) 2 2])) wy):=by
    have hky:=zBI.block hk3 KP SZ (by omega);refine ⟨⟨(⟨10,t,false,0,0,0,0,false,false,0,0,false,false,((2:Nat):Int)⟩:NT),ks2,_,rfl,(FitL.mk (x:=(⟨10,t,false,0,0,0,0,false,false,0,0,false,false,((2:Nat):Int)⟩:NT)) (zDK (by show t.length<=_;omega) rfl) hf2).more (by omega),hky.wide (by omega) hky.2⟩,CF.more (by have:=KQ.out;omega),OF⟩
   have QH:Hid _:=QC;clear OF CF QC SZ KP hy;go_wp2_with (refine zAN rfl _ _ _ rfl w.heap.size 0 _ rfl rfl VT zDJ (by simp [Value.oneCell']) HQ2.out ?_);exact hK (fun jj=>if jj=153 then .agg #[iQ 10,sV t,.bool false,iQ 0,iQ 0,iQ 0,iQ 0,.bool false,.bool false,iQ 0,iQ 0,.bool false,.bool false,iQ ((2:Nat):Int),.slice (some ⟨gB,0,none⟩) 2 2] else lx jj) _ ⟨(fun h=>by cases h),(fun h=>by obtain ⟨g,h1,h2,h3⟩:=f0 h;exact ⟨g,h1,h2,fun hA=>by cases hA⟩),f1,f2,(fun h=>by obtain ⟨g,u,t,h1,h2,h3,h4⟩:=f3 h;exact ⟨g,u,t,h1,h2,h3,fun hA=>by cases hA⟩),f4,f5,f6,f7,f8,(fun h=>by obtain ⟨y,ls,p2,n2,c2,lo2,hi2,h1,h2,h3,h4⟩:=f9 h;exact ⟨y,ls,p2,n2,c2,lo2,hi2,h1,h2,h3,fun hA=>by cases hA⟩),(fun h=>by obtain ⟨gB,ks2,h1,h2,h3,h4⟩:=f10 h;exact ⟨gB,ks2,h1,h2,h3,fun hA=>by cases hA⟩),(fun _=>⟨gB,ks2,t,rfl,tl,hf2,hl2,fun hA=>by cases hA⟩),(fun _=>⟨gB,t,QH.out,PO.out⟩)⟩
  | k+13,ho,_,_,_=>simp at ho
 ·intro L lx w8 hall hI;obtain ⟨R,f0,f1,f2,f3,f4,f5,f6,f7,f8,f9,f10,f11,f12⟩:=hI.out;obtain ⟨gB,t,QC,PO⟩:=f12 (hall 12 (by simp));have q0:=QC 0 _ rfl;have q1:=QC 1 _ rfl;have q2:=QC 2 _ rfl;have q3:=QC 3 _ rfl;have q4:=QC 4 _ rfl;have q5:=QC 5 _ rfl;have q6:=QC 6 _ rfl;have q7:=QC 7 _ rfl;have q8:=QC 8 _ rfl;have q9:=QC 9 _ rfl;have q10:=QC 10 _ rfl;have q11:=QC 11 _ rfl;have q12:=QC 12 _ rfl;have q13:=QC 13 _ rfl;have q14:=QC 14 _ rfl;have PH:Hid _:=PO;clear hI hall QC PO HR R f0 f1 f2 f3 f4 f5 f6 f7 f8 f9 f10 f11 f12
  (try dsimp only)
  go_wp2_with fail;exact bodyPost_ret (v:=.agg #[iQ 10,sV t,.bool false,iQ 0,iQ 0,iQ 0,iQ 0,.bool false,.bool false,iQ 0,iQ 0,.bool false,.bool false,iQ ((2:Nat):Int),.slice (some ⟨gB,0,none⟩) 2 2]) (by simp [results,go_sem,q0,q1,q2,q3,q4,q5,q6,q7,q8,q9,q10,q11,q12,q13,q14]) rfl PH.out
theorem zG3 (D D1:Int) (m M z B B':Nat) (hM:3 * m+20<=M) (hD1:IntKind.i64.wrap (D - 1)=D1) (hB:B+3 * z+500<=B') (hB':B'<=900000)
  (IH0:¬ D=0->∀ (b base K:Nat) (w:World),Cur w b base K->K<=B'->Calls Tryz.prog 57 #[.pointer (some ⟨b,0,none⟩),iQ D1] w fun e w'=>zAE m b base (K+z) w e w')
  (b base K:Nat) (w:World) (h:Cur w b base K) (hK:K<=B) :
  Calls Tryz.prog 57 #[.pointer (some ⟨b,0,none⟩),iQ D] w fun e w'=>zAE M b base (K+3 * z+500) w e w':=by
 have IH:Hid _:=IH0;have bl:=h.lt;have bb:=h.baseC;have X0:=x1 w (.cells Z15.toArray 77);have V0:=zA4 w Z15 77;have C1:=h.ext X0;have O1:Only b w _:=Only.of_ext X0;have sa:(w.alloc (.cells Z15.toArray 77)).heap.size=w.heap.size+1:=World.size_alloc _ _;obtain ⟨wa,ha⟩:=nm (w.alloc (.cells Z15.toArray 77));have HWA:Hid _:=ha;rw [ha] at V0 C1 O1 sa;clear X0 h ha IH0;go_enter Tryz.func57,Tryz.ntmps57;go_wp2_with (rw [HWA.out]);refine (zAV b base K 14 _ C1 (by omega) (by omega) (by omega)).mono ?_;rintro e w1 ⟨y,rfl,⟨y0,y9⟩,C1,o1⟩;have V0:=o1.vecC (by omega) V0;have O1:=O1.trans o1;clear o1 HWA sa;obtain ⟨Q1,hQ1⟩:=nm (decide (D=0));obtain ⟨Q2,hQ2⟩:=nm (decide (5<y));have g1:(D == 0)=Q1:=by rw [<- hQ1];by_cases hh:D=0 <;> simp [hh]
 have HQ1:Hid (Q1=true->D=0):=fun hh=>of_decide_eq_true (hQ1.trans hh);have HQ2:Hid (Q2=false->y<=5):=fun hh=>by have:=of_decide_eq_false (hQ2.trans hh);omega
 have HQ3:Hid (Q1=false->¬ D=0):=fun hh=>of_decide_eq_false (hQ1.trans hh);clear hQ1;go_upto_region 2 with fail;go_cut [21] (fun s wc=>s=.bool (Q1 && Q2)/\w1=wc)
 case first =>
  clear HQ1 HQ2 HQ3 IH;cases Q1
  ·go_wp2_with fail;go_meet
   exact ⟨rfl,rfl⟩
  ·cases Q2
   ·go_wp2_with fail;go_meet
    exact ⟨rfl,rfl⟩
   ·go_wp2_with fail;go_meet
    exact ⟨rfl,rfl⟩
 case rest =>
  obtain ⟨rfl,rfl⟩:=hcut;clear hQ2 g1;go_upto_if 21 with fail;go_cut [5] (fun s wc=>∃ k:Int,s=iQ k/\0<=k/\k<14/\(D=0->k<=5)/\Vec wc w.heap.size Z15/\Cur wc b base (K+4)/\Only b w wc)
  case first =>
   cases hQ:Q1 && Q2
   ·have hk5:D=0->y<=5:=fun hd=>by
     cases q1:Q1
     ·exact absurd hd (HQ3.out q1)
     ·rw [q1,Bool.true_and] at hQ;exact HQ2.out hQ
    have C1:=C1.more (K':=K+4) (by omega);clear HQ1 HQ2 HQ3 hQ IH;go_wp2_with fail;go_meet
    exact ⟨y,rfl,y0,y9,hk5,V0,C1,O1⟩
   ·clear HQ1 HQ2 HQ3 hQ IH y0 y9;go_wp2_with fail;refine (zAV b base _ 6 _ C1 (by omega) (by omega) (by omega)).mono ?_;rintro e w2 ⟨k,rfl,⟨k0,k9⟩,C1,o1⟩;have V0:=o1.vecC (by omega) V0;have O1:=O1.trans o1;go_wp2_with fail;go_meet
    exact ⟨k,rfl,k0,by omega,fun _=>by omega,V0,C1.more (by omega),O1⟩
  case rest =>
   obtain ⟨k,rfl,k0,k9,hk5,V0,C1,O1⟩:=hcut
   rename World=>wk
   clear HQ1 HQ2 HQ3 y0 y9
   rename ∀ (a:Act) (w:World),Code.wp Tryz.prog _ _ a w->_=>hK9
   refine hK9 _ _ ?_;by_cases g1:k<=3
   ·exact zV7 D D1 m M z B B' hM hD1 hB hB' IH.out b base K w wk bl bb hK k hk5 V0 C1 O1 (by omega)
   by_cases g2:k<=5
   ·exact zV6 D D1 m M z B B' hM hD1 hB hB' IH.out b base K w wk bl bb hK k hk5 V0 C1 O1 (by omega)
   by_cases g3:k<=7
   ·exact zV5 D D1 m M z B B' hM hD1 hB hB' IH.out b base K w wk bl bb hK k hk5 V0 C1 O1 (by omega)
   by_cases g4:k=8
   ·exact zV4 D D1 m M z B B' hM hD1 hB hB' IH.out b base K w wk bl bb hK k hk5 V0 C1 O1 g4
   by_cases g5:k<=10
   ·exact zV3 D D1 m M z B B' hM hD1 hB hB' IH.out b base K w wk bl bb hK k hk5 V0 C1 O1 (by omega)
   ·exact zV2 D D1 m M z B B' hM hD1 hB hB' IH.out b base K w wk bl bb hK k hk5 V0 C1 O1 (by omega)
def zFR (base:Nat) (v:Value) (l:List NT) (w:World) (e:Ending) (w':World):Prop:=
 ∃ (q:Option Addr) (c:Nat),e=.returned (.slice q l.length c)/\zBA w' base (.slice q l.length c) l/\w.grownBy w' v.ownBlock/\((Value.slice q l.length c).ownBlock=v.ownBlock\/∃ g,(Value.slice q l.length c).ownBlock=some g/\w.heap.size<=g)
theorem zJ7 {w w1 w2:World} {row:Option Nat} (x:Ext w w1) (g:w1.grownBy w2 row):w.grownBy w2 row:=
 ⟨g.os.trans x.os,g.tape.trans x.tape,g.output.trans x.output,Nat.le_trans x.size g.size,fun k hk hne=>(g.block k (Nat.lt_of_lt_of_le hk x.size) hne).trans (x.block k hk)⟩
theorem zMD {w w1 w2:World} {row row':Option Nat} (g:w.grownBy w1 row) (g':w1.grownBy w2 row') (h:row'=row\/∃ b,row'=some b/\w.heap.size<=b):w.grownBy w2 row:=
 ⟨g'.os.trans g.os,g'.tape.trans g.tape,g'.output.trans g.output,Nat.le_trans g.size g'.size,fun k hk hne=>(g'.block k (Nat.lt_of_lt_of_le hk g.size) (fun e=>by
  rcases h with h | ⟨b,h,hb⟩
  ·exact hne (e.trans h)
  ·have:=Option.some.inj (e.trans h);omega)).trans (g.block k hk hne)⟩
theorem zK8 {ks:List ET} {j:Nat} {e:ET} (h:ks[j]?=some e):zAO (ks.take (j+1))=zAO (ks.take j)++zBN e:=by
 rw [List.take_add_one,h,zCR];show _++zAO [e]=_;rw [zCU]
theorem zJG:∀ {ks:List ET} {e:ET},e ∈ ks->(zBN e).length<=(zAO ks).length
 | k :: ks,e,h=>by
  rw [zAO,List.length_append]
  rcases List.mem_cons.1 h with rfl | h
  ·omega
  ·have:=zJG h;omega
theorem zOJ:∀ (ks:List ET),ks.length<=(zAO ks).length
 | []=>Nat.zero_le _
 | .mk n l :: ks=>by
  have:=zOJ ks;rw [zAO,zBN,List.length_append,List.length_cons,List.length_cons];omega
theorem zI6 (ks:List ET) (j:Nat):(zAO (ks.take j)).length<=(zAO ks).length:=by
 have h:=List.take_append_drop j ks;have h2:=congrArg (fun l=>(zAO l).length) h;simp only [zCR,List.length_append] at h2;omega
theorem KidsS.rowU {w:World} {U:Nat->Prop} {v:Value} {es:List ET} (h:KidsS w U v es) {j:Nat} {e:ET} (hj:es[j]?=some e):∃ cap g s,v=.slice (some ⟨g,0,none⟩) es.length cap/\U g/\w.rangeAt g (j * 15) (e.n.cells++[s])/\KidsS w U s e.kids:=by
 cases h with
 | mk p cap es s hc hp hk =>
  obtain ⟨g,rfl,hg,h3⟩:=hp (by have:=(List.getElem?_eq_some_iff.1 hj).1;omega);exact ⟨cap,g,s j,rfl,hg,fun c u hu=>h3 j e hj c u hu,hk j e hj⟩
def PutL (base:Nat) (v:Value) (l:List NT) (x:NT) (ks:List ET) (w:World) (j:Nat) (q':Option Addr) (m c':Nat) (wr:World):Prop:=
 ((l++[x])++zAO (ks.take j)).length=m/\zBA wr base (.slice q' m c') ((l++[x])++zAO (ks.take j))/\w.grownBy wr v.ownBlock/\((Value.slice q' m c').ownBlock=v.ownBlock\/∃ g,(Value.slice q' m c').ownBlock=some g/\w.heap.size<=g)
theorem zT9 (F:Nat)
  (ih:∀ (x:NT) (ks:List ET) (p:Option Addr) (cap:Nat) (U:Nat->Prop) (q:Option Addr) (c:Nat) (l:List NT) (base:Nat) (w:World),(zBN (.mk x ks)).length<=F->zBA w base (.slice q l.length c) l->base<=w.heap.size->KidsS w U (.slice p ks.length cap) ks ->
   (∀ k,U k->k<w.heap.size/\some k ≠ (Value.slice q l.length c).ownBlock)->l.length+(zBN (.mk x ks)).length<=800000 ->
   Calls Tryz.prog 56 #[.slice q l.length c,.agg #[iQ x.k,sV x.t,.bool x.n,iQ x.d,iQ x.x,iQ x.r,iQ x.c,.bool x.f,.bool x.g,iQ x.r2,iQ x.c2,.bool x.f2,.bool x.g2,iQ x.q,.slice p ks.length cap]] w fun e w'=>zFR base (.slice q l.length c) (l++zBN (.mk x ks)) w e w')
  (x:NT) (ks:List ET) (p:Option Addr) (cap:Nat) (U:Nat->Prop) (q:Option Addr) (c:Nat) (l:List NT) (base:Nat) (w:World) (hF:(zBN (.mk x ks)).length<=F+1) (O:zBA w base (.slice q l.length c) l) (hb:base<=w.heap.size) (hK:KidsS w U (.slice p ks.length cap) ks)
  (hU:∀ k,U k->k<w.heap.size/\some k ≠ (Value.slice q l.length c).ownBlock) (hN:l.length+(zBN (.mk x ks)).length<=800000) :
  Calls Tryz.prog 56 #[.slice q l.length c,.agg #[iQ x.k,sV x.t,.bool x.n,iQ x.d,iQ x.x,iQ x.r,iQ x.c,.bool x.f,.bool x.g,iQ x.r2,iQ x.c2,.bool x.f2,.bool x.g2,iQ x.q,.slice p ks.length cap]] w fun e w'=>zFR base (.slice q l.length c) (l++zBN (.mk x ks)) w e w':=by
 have IH:Hid (∀ (x:NT) (ks:List ET) (p:Option Addr) (cap:Nat) (U:Nat->Prop) (q:Option Addr) (c:Nat) (l:List NT) (base:Nat) (w:World),(zBN (.mk x ks)).length<=F->zBA w base (.slice q l.length c) l->base<=w.heap.size->KidsS w U (.slice p ks.length cap) ks ->
   (∀ k,U k->k<w.heap.size/\some k ≠ (Value.slice q l.length c).ownBlock)->l.length+(zBN (.mk x ks)).length<=800000 ->
   Calls Tryz.prog 56 #[.slice q l.length c,.agg #[iQ x.k,sV x.t,.bool x.n,iQ x.d,iQ x.x,iQ x.r,iQ x.c,.bool x.f,.bool x.g,iQ x.r2,iQ x.c2,.bool x.f2,.bool x.g2,iQ x.q,.slice p ks.length cap]] w fun e w'=>zFR base (.slice q l.length c) (l++zBN (.mk x ks)) w e w'):=ih
 have hfl:(zBN (.mk x ks)).length=(zAO ks).length+1:=by rw [zBN,List.length_cons]
 rw [hfl] at hF hN;have hkl:ks.length<=800000:=by have:=zOJ ks;omega
 have ob:=zB4 O;have HK:Hid _:=hK;have HO:Hid _:=O;have X1:=x1 w (.cells (x.exL (.slice p ks.length cap)).toArray 77);have V3:=zA4 w (x.exL (.slice p ks.length cap)) 77;have s1:(w.alloc (.cells (x.exL (.slice p ks.length cap)).toArray 77)).heap.size=w.heap.size+1:=World.size_alloc _ _;obtain ⟨w1,h1⟩:=nm (w.alloc (.cells (x.exL (.slice p ks.length cap)).toArray 77));have H1:Hid _:=h1;rw [h1] at X1 V3 s1;have R3:w1.rangeAt w.heap.size 0 [iQ x.k,sV x.t,.bool x.n,iQ x.d,iQ x.x,iQ x.r,iQ x.c,.bool x.f,.bool x.g,iQ x.r2,iQ x.c2,.bool x.f2,.bool x.g2,iQ x.q]:=fun k u hu=>by
  rw [Nat.zero_add];have hk:k<14:=by have:=(List.getElem?_eq_some_iff.1 hu).1;simpa using this
  exact (V3 k u (by show (([iQ x.k,sV x.t,.bool x.n,iQ x.d,iQ x.x,iQ x.r,iQ x.c,.bool x.f,.bool x.g,iQ x.r2,iQ x.c2,.bool x.f2,.bool x.g2,iQ x.q]:List Value)++[.slice p ks.length cap])[k]?=some u;rw [List.getElem?_append_left (by simpa using hk)];exact hu)).1
 have X2:=x1 w1 (.cells x.cells.toArray 73);have V5:=zA4 w1 x.cells 73;have s2:(w1.alloc (.cells x.cells.toArray 73)).heap.size=w1.heap.size+1:=World.size_alloc _ _;obtain ⟨w2,h2⟩:=nm (w1.alloc (.cells x.cells.toArray 73));have H2:Hid _:=h2;rw [h2] at X2 V5 s2;have V32:=V3.l X2;have b14:=(V32 14 _ rfl).1;obtain ⟨d13,f13⟩:=V5 13 _ rfl;have V5b:=V5.put 13 (by simp) (iQ (ks.length:Int));have V33:=V32.far (p:=⟨w1.heap.size,13,none⟩) (by show w1.heap.size ≠ _;omega) (iQ (ks.length:Int));have X3:=xset (p:=⟨w1.heap.size,13,none⟩) (xt X1 X2) (by show w.heap.size<=w1.heap.size;omega) (iQ (ks.length:Int));have s3:(w2.setCell ⟨w1.heap.size,13,none⟩ (iQ (ks.length:Int))).heap.size=w2.heap.size:=World.size_setCell _ _ _;obtain ⟨w3,h3⟩:=nm (w2.setCell ⟨w1.heap.size,13,none⟩ (iQ (ks.length:Int)));have H3:Hid _:=h3;rw [h3] at V5b V33 X3 s3;have R5:w3.rangeAt w1.heap.size 0 [iQ x.k,sV x.t,.bool x.n,iQ x.d,iQ x.x,iQ x.r,iQ x.c,.bool x.f,.bool x.g,iQ x.r2,iQ x.c2,.bool x.f2,.bool x.g2,iQ (ks.length:Int)]:=fun k u hu=>by rw [Nat.zero_add];exact (V5b k u hu).1
 have X4:=x1 w3 (.cells ((⟨x.k,x.t,x.n,x.d,x.x,x.r,x.c,x.f,x.g,x.r2,x.c2,x.f2,x.g2,(ks.length:Int)⟩:NT)).cells.toArray 73);have V6:=zA4 w3 ((⟨x.k,x.t,x.n,x.d,x.x,x.r,x.c,x.f,x.g,x.r2,x.c2,x.f2,x.g2,(ks.length:Int)⟩:NT)).cells 73;obtain ⟨w4,h4⟩:=nm (w3.alloc (.cells ((⟨x.k,x.t,x.n,x.d,x.x,x.r,x.c,x.f,x.g,x.r2,x.c2,x.f2,x.g2,(ks.length:Int)⟩:NT)).cells.toArray 73));have H4:Hid _:=h4;rw [h4] at X4 V6;have X14:=xt X3 X4;obtain ⟨v5,w5,hrun,O5,GW,hbl⟩:=zDZ w4 base (.slice q l.length c) l (zAW O X14) ((⟨x.k,x.t,x.n,x.d,x.x,x.r,x.c,x.f,x.g,x.r2,x.c2,x.f2,x.g2,(ks.length:Int)⟩:NT)) w3.heap.size (fun k u hu=>by rw [Nat.zero_add];exact (V6 k u hu).1) (by omega) (Nat.le_trans hb X14.size);obtain ⟨q5,c5,ev⟩:∃ q5 c5,v5=.slice q5 (l.length+1) c5:=by
  obtain ⟨z1,z2,z3,_⟩:=zAR O5;rw [List.length_append] at z3;exact ⟨z1,z2,z3⟩
 subst ev;have G5:w.grownBy w5 (Value.slice q l.length c).ownBlock:=zJ7 X14 GW;have V35:=zCT (V33.l X4) GW (fun r hr=>by have:=ob r hr;omega);have b14':=(V35 14 _ rfl).1;have hz4:=X14.size;have HB5:Hid ((Value.slice q5 (l.length+1) c5).ownBlock=(Value.slice q l.length c).ownBlock\/∃ g,(Value.slice q5 (l.length+1) c5).ownBlock=some g/\w.heap.size<=g):=hbl.imp id (fun h=>⟨_,h,hz4⟩);have HL0:Hid (PutL base (.slice q l.length c) l ((⟨x.k,x.t,x.n,x.d,x.x,x.r,x.c,x.f,x.g,x.r2,x.c2,x.f2,x.g2,(ks.length:Int)⟩:NT)) ks w 0 q5 (l.length+1) c5 w5):=by
  have h0:(l++[(⟨x.k,x.t,x.n,x.d,x.x,x.r,x.c,x.f,x.g,x.r2,x.c2,x.f2,x.g2,(ks.length:Int)⟩:NT)])++zAO (ks.take 0)=l++[(⟨x.k,x.t,x.n,x.d,x.x,x.r,x.c,x.f,x.g,x.r2,x.c2,x.f2,x.g2,(ks.length:Int)⟩:NT)]:=by rw [List.take_zero,zAO,List.append_nil]
  refine ⟨by rw [h0,List.length_append];rfl,?_,G5,HB5.out⟩;rw [h0];exact O5
 clear s1 s2 s3 hz4 HB5 V3 V5 V32 V33 V5b V35 X1 X2 X3 X4 X14 V6 O5 GW G5 hbl h1 h2 h3 h4 ih O hK;go_enter Tryz.func56,Tryz.ntmps56;go_upto_region 1 with fail;rw [H1.out];go_upto_region 2 with (refine wpList_load_mid rfl 73 (.tmp 8) rfl w.heap.size 0 rfl _ _ R3 Tryz.underlying73 rfl zBL ?_);rw [H2.out];go_upto_region 3 with fail;rw [H3.out];go_wp2_with (first | (refine wpList_load_mid rfl 73 (.tmp 5) rfl w1.heap.size 0 rfl _ _ R5 Tryz.underlying73 rfl zBL ?_) | (at_builtin;rw [H4.out];refine Lib.wpList_append_run _ rfl _ _ _ _ rfl _ _ rfl rfl _ _ hrun ?_));go_loopw [0,21] (fun ov iv wr=>∃ (j:Nat) (q':Option Addr) (c' m:Nat),j<=ks.length/\iv=.int .i64 (j:Int)/\ov=.slice q' m c'/\Hid (PutL base (.slice q l.length c) l ((⟨x.k,x.t,x.n,x.d,x.x,x.r,x.c,x.f,x.g,x.r2,x.c2,x.f2,x.g2,(ks.length:Int)⟩:NT)) ks w j q' m c' wr)) (fun _ iv _=>ks.length - (intOf iv).toNat)
 case atStart=>exact ⟨0,q5,c5,_,by omega,rfl,rfl,HL0⟩
 case round =>
  clear HL0;obtain ⟨j,q',c',m,hj,rfl,rfl,HL⟩:=hrel;by_cases hlt:j<ks.length
  ·have k2:(j:Int)<(ks.length:Int):=by omega
   obtain ⟨e0,he⟩:∃ e,ks[j]?=some e:=⟨_,List.getElem?_eq_getElem hlt⟩;obtain ⟨y,ls⟩:=e0;obtain ⟨cap',g,s,hv,hg,RA,hks⟩:=HK.out.rowU he;obtain rfl:p=some ⟨g,0,none⟩:=(Value.slice.inj hv).1;obtain ⟨p2,c2,rfl,_⟩:=hks.slice;obtain ⟨hm,OL,GL,BL⟩:=HL.out;have hne:∀ k,U k->wr.heap[k]?=w.heap[k]?:=fun k hk=>GL.block k (hU k hk).1 (hU k hk).2;have RW:wr.rangeAt g (j * 15) [iQ y.k,sV y.t,.bool y.n,iQ y.d,iQ y.x,iQ y.r,iQ y.c,.bool y.f,.bool y.g,iQ y.r2,iQ y.c2,.bool y.f2,.bool y.g2,iQ y.q,.slice p2 ls.length c2]:=fun k u hu=>by
    have:=RA k u hu;unfold World.cell? at this ⊢;rw [hne g hg];exact this
   have X6:=x1 wr (.cells (y.exL (.slice p2 ls.length c2)).toArray 77);have V7:=zA4 wr (y.exL (.slice p2 ls.length c2)) 77;obtain ⟨w6,h6⟩:=nm (wr.alloc (.cells (y.exL (.slice p2 ls.length c2)).toArray 77));have H6:Hid _:=h6;rw [h6] at X6 V7;have R7:w6.rangeAt wr.heap.size 0 [iQ y.k,sV y.t,.bool y.n,iQ y.d,iQ y.x,iQ y.r,iQ y.c,.bool y.f,.bool y.g,iQ y.r2,iQ y.c2,.bool y.f2,.bool y.g2,iQ y.q,.slice p2 ls.length c2]:=fun k u hu=>by rw [Nat.zero_add];exact (V7 k u hu).1
   have hmem:ET.mk y ls ∈ ks:=List.mem_of_getElem? he;have hle:=zJG hmem;have htk:=zK8 he;have htl:=zI6 ks (j+1);rw [htk,List.length_append] at htl;have hlen2:((l++[(⟨x.k,x.t,x.n,x.d,x.x,x.r,x.c,x.f,x.g,x.r2,x.c2,x.f2,x.g2,(ks.length:Int)⟩:NT)])++zAO (ks.take j)).length=l.length+1+(zAO (ks.take j)).length:=by rw [List.length_append,List.length_append];rfl
   have obL:=zB4 (l:=(l++[(⟨x.k,x.t,x.n,x.d,x.x,x.r,x.c,x.f,x.g,x.r2,x.c2,x.f2,x.g2,(ks.length:Int)⟩:NT)])++zAO (ks.take j)) (v:=.slice q' m c') (w:=wr) (base:=base) (by rw [hm] at *;exact OL);have IC:=IH.out y ls p2 c2 U q' c' ((l++[(⟨x.k,x.t,x.n,x.d,x.x,x.r,x.c,x.f,x.g,x.r2,x.c2,x.f2,x.g2,(ks.length:Int)⟩:NT)])++zAO (ks.take j)) base w6 (by omega) (by rw [hm];exact zAW (by rw [hm] at *;exact OL) X6) (Nat.le_trans (Nat.le_trans hb GL.size) X6.size) (hks.keep (fun k hk=>(X6.block k (Nat.lt_of_lt_of_le (hU k hk).1 GL.size)).trans (hne k hk)) (fun _ h=>h)) (fun k hk=>⟨Nat.lt_of_lt_of_le (Nat.lt_of_lt_of_le (hU k hk).1 GL.size) X6.size,fun e=>by
    rw [hm] at e
    rcases BL with h | ⟨b,h,hbb⟩
    ·exact (hU k hk).2 (e.trans h)
    ·have:=Option.some.inj (e.trans h);have:=(hU k hk).1;omega⟩) (by omega)
   rw [hm] at IC;have HT:Hid (∀ e w7,zFR base (.slice q' m c') (((l++[(⟨x.k,x.t,x.n,x.d,x.x,x.r,x.c,x.f,x.g,x.r2,x.c2,x.f2,x.g2,(ks.length:Int)⟩:NT)])++zAO (ks.take j))++zBN (.mk y ls)) w6 e w7->∃ (q7:Option Addr) (c7 m7:Nat),e=.returned (.slice q7 m7 c7)/\PutL base (.slice q l.length c) l ((⟨x.k,x.t,x.n,x.d,x.x,x.r,x.c,x.f,x.g,x.r2,x.c2,x.f2,x.g2,(ks.length:Int)⟩:NT)) ks w (j+1) q7 m7 c7 w7):=fun e w7 hp=>by
    obtain ⟨q7,c7,rfl,O7,G7,B7⟩:=hp;refine ⟨q7,c7,_,rfl,?_,?_,?_,?_⟩
    ·rw [htk,List.append_assoc,List.append_assoc,List.append_assoc]
    ·rw [htk,<- List.append_assoc ((l++[(⟨x.k,x.t,x.n,x.d,x.x,x.r,x.c,x.f,x.g,x.r2,x.c2,x.f2,x.g2,(ks.length:Int)⟩:NT)])) (zAO (ks.take j)) (zBN (.mk y ls))];exact O7
    ·exact zMD GL (zJ7 X6 G7) (BL.imp id (fun ⟨b,h1,h2⟩=>⟨b,h1,h2⟩))
    ·rcases B7 with h | ⟨b,h,hbb⟩
     ·rcases BL with h' | ⟨b,h',hbb⟩
      ·exact Or.inl (h.trans h')
      ·exact Or.inr ⟨b,h.trans h',hbb⟩
     ·exact Or.inr ⟨b,h,Nat.le_trans (Nat.le_trans GL.size X6.size) hbb⟩
   clear HL RA hks hm OL GL BL hne X6 V7 h6 hmem hle htk htl hlen2 obL he hv;go_wp2_with (first | (refine wpList_load_mid rfl 77 (.tmp 23) rfl g (j * 15) rfl _ _ RW Tryz.underlying77 rfl zDJ ?_) | (rw [H6.out]) | (refine wpList_load_mid rfl 77 (.tmp 7) rfl wr.heap.size 0 rfl _ _ R7 Tryz.underlying77 rfl zDJ ?_));refine IC.mono ?_;rintro e w7 hp;obtain ⟨q7,c7,m7,rfl,HL7⟩:=HT.out e w7 hp;have HR:Hid _:=HL7;clear HT IC hp HL7;go_wp2_with fail;go_roundw
   case rel=>exact ⟨j+1,q7,c7,m7,by omega,by go_num,rfl,HR⟩
   case measure=>simp [intOf];omega
  ·have k2:¬ (j:Int)<(ks.length:Int):=by omega
   obtain rfl:j=ks.length:=by omega
   have PO:Hid (zFR base (.slice q l.length c) (l++zBN (.mk x ks)) w (.returned (.slice q' m c')) wr):=by
    obtain ⟨hm,OL,GL,BL⟩:=HL.out;have hl:(l++[(⟨x.k,x.t,x.n,x.d,x.x,x.r,x.c,x.f,x.g,x.r2,x.c2,x.f2,x.g2,(ks.length:Int)⟩:NT)])++zAO (ks.take ks.length)=l++zBN (.mk x ks):=by
     rw [List.take_length,zBN,List.append_assoc];rfl
    rw [hl] at hm OL;subst hm;exact ⟨q',c',rfl,OL,GL,BL⟩
   clear HL;go_wp2_with fail;go_ret;exact PO.out
theorem zVG (F : Nat) : ∀ (x : NT) (ks : List ET) (p : Option Addr) (cap : Nat) (U : Nat -> Prop) (q : Option Addr) (c : Nat) (l : List NT) (base : Nat) (w : World), (zBN (.mk x ks)).length <= F -> zBA w base (.slice q l.length c) l -> base <= w.heap.size -> KidsS w U (.slice p ks.length cap) ks ->
      (∀ k, U k -> k < w.heap.size /\ some k ≠ (Value.slice q l.length c).ownBlock) -> l.length + (zBN (.mk x ks)).length <= 800000 ->
      Calls Tryz.prog 56 #[.slice q l.length c, .agg #[iQ x.k, sV x.t, .bool x.n, iQ x.d, iQ x.x, iQ x.r, iQ x.c, .bool x.f, .bool x.g, iQ x.r2, iQ x.c2, .bool x.f2, .bool x.g2, iQ x.q, .slice p ks.length cap]] w fun e w' => zFR base (.slice q l.length c) (l ++ zBN (.mk x ks)) w e w' := by
  induction F with
  | zero =>
    intro x ks p cap U q c l base w h
    rw [zBN, List.length_cons] at h
    omega
  | succ F ih => exact fun x ks p cap U q c l base w hF O hb hK hU hN => zT9 F ih x ks p cap U q c l base w hF O hb hK hU hN
theorem OwnN.setN {w : World} {g i c : Nat} {l : List NT} {x x' : NT} {u : Value} (h : OwnN w g l) (hi : l[i]? = some x) (hx : x'.cells = x.cells.set c u) (hc : c < 14) : OwnN (w.setCell ⟨g, i * 14 + c, none⟩ u) g (l.set i x') := by
  intro j e hj k v hk
  have hil := (List.getElem?_eq_some_iff.1 hi).1
  have hk14 := zF6 hk
  refine ⟨?_, ?_⟩
  · by_cases hji : j = i
    · subst hji
      rw [List.getElem?_set_self hil] at hj
      cases hj
      rw [hx] at hk
      by_cases hkc : k = c
      · subst hkc
        rw [List.getElem?_set_self (by exact hc)] at hk
        cases hk
        obtain ⟨u0, hu0⟩ : ∃ u0, x.cells[k]? = some u0 := ⟨_, List.getElem?_eq_getElem hc⟩
        exact World.cell?_setCell_same _ _ _ (h j x hi k u0 hu0).1
      · rw [List.getElem?_set_ne (fun e => hkc e.symm)] at hk
        rw [World.cell?_setCell_other _ _ _ _ (fun e => by have := congrArg Addr.off e; simp at this; omega)]
        exact (h j x hi k v hk).1
    · rw [List.getElem?_set_ne (fun e => hji e.symm)] at hj
      rw [World.cell?_setCell_other _ _ _ _ (fun e => by have := congrArg Addr.off e; simp at this; omega)]
      exact (h j e hj k v hk).1
  · rw [World.frozen?_setCell]
    by_cases hji : j = i
    · subst hji
      obtain ⟨u0, hu0⟩ : ∃ u0, x.cells[k]? = some u0 := ⟨_, List.getElem?_eq_getElem hk14⟩
      exact (h j x hi k u0 hu0).2
    · rw [List.getElem?_set_ne (fun e => hji e.symm)] at hj
      exact (h j e hj k v hk).2
theorem OwnN.only {w w' : World} {b g : Nat} {l : List NT} (h : OwnN w g l) (o : Only b w w') (hg : g ≠ b) : OwnN w' g l := fun i e hi c u hc => by
  obtain ⟨h1, h2⟩ := h i e hi c u hc
  refine ⟨o.cell hg h1, ?_⟩
  have hlt := World.block_lt_of_cell? _ _ h1
  rw [<- h2]
  exact World.frozen?_of_block (o.block g hg hlt)
theorem zTB {w : World} {base : Nat} {v : Value} {l : List NT} (h : zBA w base v l) (hl : l ≠ []) : ∃ g c, v = .slice (some ⟨g, 0, none⟩) l.length c /\ l.length <= c /\ OwnN w g l /\ base <= g /\ g < w.heap.size := by
  have hp : 0 < l.length := List.length_pos_iff.2 hl
  obtain ⟨g, ⟨_, p, c, rfl, hc, hr⟩, hg⟩ := zF5 h
  obtain ⟨rfl, V⟩ := hr hp
  exact ⟨g, c, rfl, hc, fun i e hi k u hk => V _ u (by rw [zFD hi k (zF6 hk)]; exact hk), (hg hp).1, (hg hp).2⟩
theorem OwnN.nodesC {w : World} {g n c : Nat} {l : List NT} (h : OwnN w g l) (hn : l.length = n) (hc : n <= c) : zAI w (.slice (some ⟨g, 0, none⟩) n c) l := by
  subst hn
  exact ⟨_, c, rfl, hc, fun _ => ⟨g, 0, rfl, h.row⟩⟩
theorem pickN (b base K : Nat) (n : Nat) (w : World) (h : Cur w b base K) (hK : K <= 100000000) (n0 : 1 <= n) (n1 : n <= 100000000) :
    Calls Tryz.prog 40 #[.pointer (some ⟨b, 0, none⟩), iQ (n : Int)] w fun e w' => ∃ v : Nat, e = .returned (iQ (v : Int)) /\ v < n /\ Cur w' b base (K + 2) /\ Only b w w' := by
  by_cases h1 : n = 1
  · subst h1
    show Calls _ _ #[_, iQ 1] _ _
    go_enter Tryz.func40, Tryz.ntmps40
    go_wp2_with fail
    go_ret
    exact ⟨0, rfl, by omega, h.more (by omega), Only.refl _ _⟩
  · refine (zAV b base K (n : Int) w h hK (by omega) (by omega)).mono ?_
    rintro e w1 ⟨v, rfl, ⟨v0, v9⟩, C, o⟩
    exact ⟨v.toNat, by rw [Int.toNat_of_nonneg v0], by omega, C, o⟩
end Go.Proofs.YteliaeejooekbaaGreatDoor
