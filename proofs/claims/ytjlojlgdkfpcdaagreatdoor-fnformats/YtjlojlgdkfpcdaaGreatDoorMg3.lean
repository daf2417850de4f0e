/-
  Several texts in one: LibC, FrameL, Ka, Kp, Kc, Kq, Kr.
-/
import Derived.Test.YtjlojlgdkfpcdaaGreatDoorMg1
import Derived.Test.YtjlojlgdkfpcdaaGreatDoorShelf
import Derived.WalkSmall
import Derived.Lib.LaidTab
import Derived.Stop.LaidErr
import Derived.Laws.MakeOwn
import Derived.Lib.Strings
import Derived.Lib.SlTrimSet
import Derived.Deep.QuietTactic
import Derived.BigQuiet
import Derived.Deep.RegionWith
import Derived.Deep.LoopGhost
import Derived.Deep.AppendLies
import Derived.OwnWalk
import Derived.Laws.OwnMore
set_option maxRecDepth 8000
set_option maxHeartbeats 2000000
namespace Go.Proofs.YtjlojlgdkfpcdaaGreatDoor
open Go.RowKit
theorem zOT:Builder.Extra Tryz.prog layRepeat_ren:={
 sizeBuilder:=by kernel_rfl
 liesBuilder:=by kernel_rfl
 t5:=layRepeat.t5
 a5:=layRepeat.a5
 z5:=layRepeat.z5
 v5:=layRepeat.v5
 infoByte:=by kernel_rfl
 cellsByte:=by kernel_rfl
 sizeByte:=by kernel_rfl
 neB5:=by decide }
theorem fRepeat:layRepeat_ren.f 105=45:=by kernel_rfl
theorem fItoa:layItoa_ren.f 171=138:=by kernel_rfl
theorem repC:RepC:=by
 intro c w h0 h1;obtain ⟨n,rfl⟩:∃ n:Nat,c=(n:Int):=⟨c.toNat,by omega⟩;have h:=Any.strings_Repeat layRepeat zOT ⟨#[48]⟩ n w (by omega) (by show 1 * n<=_;omega);rw [fRepeat] at h;refine h.mono fun e w' ⟨he,hw⟩=>⟨_,he,?_,hw⟩;have e:=Lib.repeatL_replicate 48 1 n;simp only [Nat.mul_one] at e;show Lib.repeatL [48] n=List.replicate ((n:Int)).toNat 48;rw [Int.toNat_natCast,<- e];rfl
theorem zT7:Tryz.prog.globalNamed "internal/strconv.uint64pow10" = some 11:=by kernel_rfl
theorem zVO (w:World) (k:Nat) (os:Array Obj):Ext w (Sort.grow (w.drewN k) os):=
 ⟨rfl,rfl,rfl,by simp [Sort.grow,World.drewN],fun i hi=>by simp [Sort.grow,World.drewN,Array.getElem?_append_left hi]⟩
theorem itoaC {w0:World} (h0:Lib.TabIs Tryz.prog w0 "internal/strconv.uint64pow10" .u64 Lib.pow10Tab):zD2 w0:=by
 intro n w b0 b1 X;have hlt:11<w0.heap.size:=by
  have h:=h0;unfold Lib.TabIs World.var? at h;simp only [zT7,Option.bind_some] at h;by_cases hk:11<w0.heap.size
  ·exact hk
  ·rw [Array.getElem?_eq_none (by omega)] at h;cases h
 have h:=Any.strconv_Itoa layItoa n (by omega) (by omega) w (var?_below X zT7 hlt h0);rw [fItoa] at h;refine h.mono fun e w' ⟨he,k,os,hw⟩=>⟨_,he,rfl,?_⟩;subst hw;exact zVO w k os
end Go.Proofs.YtjlojlgdkfpcdaaGreatDoor

namespace Go.Proofs.YtjlojlgdkfpcdaaGreatDoor
open Go.ChangeShapes Go.WideShapes Go.ChangeAt Go.RowKit
theorem zPR:(Tryz.prog.globals[11]?).map (·.type)=some 148:=by kernel_rfl
theorem zUS {rest:List (String × DataW Unit)} {W:World} (h:laidMet Tryz.prog (("internal/strconv.uint64pow10", Rows.laid_internal_strconv_uint64pow10) :: rest) W):Lib.TabIs Tryz.prog W "internal/strconv.uint64pow10" .u64 Lib.pow10Tab:=
 Lib.tabIs_of_head (rest:=rest) zT7 zPR Tryz.underlying148 Tryz.underlying45 (by kernel_rfl) (by kernel_rfl) h
end Go.Proofs.YtjlojlgdkfpcdaaGreatDoor

namespace Go.Proofs.YtjlojlgdkfpcdaaGreatDoor
open Go.RowKit
structure KT where
 ng:Bool
 bf:List UInt8
 af:List UInt8
 wh:Int
 pl:Int
 mb:Int
 gr:Bool
 tm:Int
 dt:List UInt8
abbrev KT.cells (e:KT):List Value:=[.bool e.ng,sV e.bf,sV e.af,iQ e.wh,iQ e.pl,iQ e.mb,.bool e.gr,iQ e.tm,sV e.dt]
abbrev formatV (ng:Bool) (bf:List UInt8) (af:List UInt8) (wh:Int) (pl:Int) (mb:Int) (gr:Bool) (tm:Int) (dt:List UInt8):Value:=.agg #[.bool ng,sV bf,sV af,iQ wh,iQ pl,iQ mb,.bool gr,iQ tm,sV dt]
def RowK (w:World) (b o:Nat) (l:List KT):Prop:=∀ (i:Nat) (e:KT),l[i]?=some e->∀ (c:Nat) (u:Value),e.cells[c]?=some u->w.cell? ⟨b,o+i * 9+c,none⟩=some u
theorem RowK.l {w w':World} {b o:Nat} {l:List KT} (h:RowK w b o l) (x:Ext w w'):RowK w' b o l:=fun i e hi c u hc=>cell_later x (h i e hi c u hc)
theorem RowK.all {w:World} {b o:Nat} {l:List KT} (h:RowK w b o l) {k:Nat} {e:KT} (he:l[k]?=some e) :
  w.cell? ⟨b,o+k * 9,none⟩=some (.bool e.ng)/\w.cell? ⟨b,o+k * 9+1,none⟩=some (sV e.bf)/\w.cell? ⟨b,o+k * 9+2,none⟩=some (sV e.af)/\w.cell? ⟨b,o+k * 9+3,none⟩=some (iQ e.wh)/\w.cell? ⟨b,o+k * 9+4,none⟩=some (iQ e.pl)/\w.cell? ⟨b,o+k * 9+5,none⟩=some (iQ e.mb)/\w.cell? ⟨b,o+k * 9+6,none⟩=some (.bool e.gr)/\w.cell? ⟨b,o+k * 9+7,none⟩=some (iQ e.tm)/\w.cell? ⟨b,o+k * 9+8,none⟩=some (sV e.dt):=
 ⟨h k e he 0 _ rfl,h k e he 1 _ rfl,h k e he 2 _ rfl,h k e he 3 _ rfl,h k e he 4 _ rfl,h k e he 5 _ rfl,h k e he 6 _ rfl,h k e he 7 _ rfl,h k e he 8 _ rfl⟩
def zB0 (w:World) (v:Value) (l:List KT):Prop:=
 ∃ p cap,v=.slice p l.length cap/\l.length<=cap/\(0<l.length->∃ b o,p=some ⟨b,o,none⟩/\RowK w b o l)
theorem zB0.l {w w':World} {v:Value} {l:List KT} (h:zB0 w v l) (x:Ext w w'):zB0 w' v l:=by
 obtain ⟨p,cap,h1,h2,h3⟩:=h;refine ⟨p,cap,h1,h2,fun h0=>?_⟩;obtain ⟨b,o,h4,h5⟩:=h3 h0;exact ⟨b,o,h4,h5.l x⟩
def zBM:KT:=⟨false,[],[],0,0,0,false,0,[]⟩
theorem KT.cells_lt {e:KT} {c:Nat} {u:Value} (h:e.cells[c]?=some u):c<9:=(List.getElem?_eq_some_iff.1 h).1
abbrev BL:=List UInt8
def runF (c:UInt8) (m:Nat) (l:BL):Nat:=min (l.takeWhile (· == c)).length m
def qT:BL->Option (BL × BL)
 | []=>none
 | c :: r =>
  if c == 34 then
   if (r.dropWhile (· != 34)) ≠ []/\(r.takeWhile (· != 34)) ≠ []/\(r.takeWhile (· != 34)).length<=20/\zBW (r.takeWhile (· != 34))=true then some (r.takeWhile (· != 34),(r.dropWhile (· != 34)).drop 1) else none
  else none
def zCC (l:BL):Nat:=match qT l with
 | some x=>x.1.length+2
 | none=>0
def zAG:List BL:=[[121,121,121,121],[121,121],[109,109],[109],[100,100],[100],[104,104],[110,110],[115,115],[45],[47],[58],[46],[32]]
def zAC (l:BL):BL:=(zAG.find? fun o=>Lib.hasPrefix l o).getD []
def zD1:Nat->BL->Nat
 | 0,_=>0
 | k+1,l=>(zAC l).length+zD1 k (l.drop (zAC l).length)
def letF (c:UInt8):Bool:=decide (97<=c.toNat/\c.toNat<=122\/65<=c.toNat/\c.toNat<=90)
def zAO:BL->Nat
 | []=>0
 | c :: r=>if letF c then zD1 12 (c :: r) else 0
def zA6:Nat->BL->Option (List BL)
 | 0,l=>if l=[] then some [] else none
 | k+1,l=>if l=[] then some [] else if zAC l=[] then none else (zA6 k (l.drop (zAC l).length)).map (zAC l :: ·)
def zAT (d:BL):Bool:=match zA6 d.length d with
 | some ps=>decide (1<=ps.length/\ps.length<=12) && letF (d.getD 0 0)
 | none=>false
def sepC (c:UInt8):Bool:=c != 34 && c != 59
def quoS (l:BL):Option (BL × BL):=if Lib.hasPrefix l [34] then qT l else some ([],l)
def numS (b:BL) (l:BL):Option (KT × BL):=
 let g:=Lib.hasPrefix l [35,44]
 let l2:=if g then l.drop 2 else l
 let w:=runF 48 9 l2
 if w=0 then none else
 let l3:=l2.drop w
 let pt:=Lib.hasPrefix l3 [46]
 let l4:=if pt then l3.drop 1 else l3
 let p:=if pt then runF 48 9 l4 else 0
 let l5:=l4.drop p
 let m:=if pt then runF 35 9 l5 else 0
 if pt=true/\p+m=0 then none else
 let l6:=l5.drop m
 let t:=runF 37 3 l6
 (quoS (l6.drop t)).map fun x=>(⟨false,b,x.1,w,p,m,g,t,[]⟩,x.2)
def zE8 (b:BL) (l:BL):Option (KT × BL):=
 let d:=l.takeWhile sepC
 if zAT d then (quoS (l.drop d.length)).map fun x=>(⟨false,b,x.1,0,0,0,false,0,d⟩,x.2) else none
def secS (l:BL):Option (KT × BL):=
 match quoS l with
 | none=>none
 | some x=>if Lib.hasPrefix x.2 [35,44] || Lib.hasPrefix x.2 [48] then numS x.1 x.2 else zE8 x.1 x.2
def zI4:List Nat:=[0,1,3,7,8,16,48,104,3,488,1000]
def mayB (part last:Nat):Bool:=(zI4.getD part 0) / 2 ^ last % 2 == 1
def zA0 (part:Nat) (l:BL):Nat:=match part with
 | 1=>zCC l
 | 2=>if Lib.hasPrefix l [35,44] then 2 else 0
 | 3=>runF 48 9 l
 | 4=>runF 46 1 l
 | 5=>runF 48 9 l
 | 6=>runF 35 9 l
 | 7=>runF 37 3 l
 | 8=>zAO l
 | 9=>zCC l
 | _=>0
def zB6 (part:Nat) (x:BL) (f:KT):KT:=match part with
 | 1=>{ f with bf:=Lib.trimS x [34] }
 | 2=>{ f with gr:=true }
 | 3=>{ f with wh:=x.length }
 | 5=>{ f with pl:=x.length }
 | 6=>{ f with mb:=x.length }
 | 7=>{ f with tm:=x.length }
 | 8=>{ f with dt:=x }
 | 9=>{ f with af:=Lib.trimS x [34] }
 | _=>f
def fitP (last:Nat) (l:BL) (p:Nat):Bool:=mayB p last && decide (0<zA0 p l)
def zAI (last:Nat) (l:BL):Option Nat:=(List.range 10).find? (fitP last l)
def zDW:Nat->Nat->BL->KT->KT × BL × Nat
 | 0,last,l,f=>(f,l,last)
 | k+1,last,l,f=>match zAI last l with
  | none=>(f,l,last)
  | some p=>zDW k p (l.drop (zA0 p l)) (zB6 p (l.take (zA0 p l)) f)
def secI (l:BL):KT × BL × Nat:=zDW 10 0 l zBM
theorem may_lt:∀ p,p<11->∀ last,last<11->mayB p last=true->last<p:=by decide
def zBV:Nat->BL->List KT->List KT
 | 0,_,_=>[]
 | k+1,l,acc=>match secS l with
  | none=>[]
  | some x=>if acc.length=3 then [] else if x.2=[] then acc++[x.1] else if Lib.hasPrefix x.2 [59] then zBV k (x.2.drop 1) (acc++[x.1]) else []
def zAZ (l:BL):List KT:=if 100<l.length then [] else zBV 4 l []
theorem zDN (l p:List UInt8):Lib.hasPrefix l p=(decide (p.length<=l.length) && (l.take p.length == p)):=by
 unfold Lib.hasPrefix;by_cases h:p <+: l
 ·have h1:p.isPrefixOf l=true:=List.isPrefixOf_iff_prefix.2 h;have h2:l.take p.length=p:=(List.prefix_iff_eq_take.1 h).symm;rw [h1,h2,decide_eq_true h.length_le];simp
 ·have h1:p.isPrefixOf l=false:=by
   cases hq:p.isPrefixOf l with
   | false=>rfl
   | true=>exact absurd (List.isPrefixOf_iff_prefix.1 hq) h
  rw [h1];symm;rw [Bool.and_eq_false_iff];by_cases hl:p.length<=l.length
  ·right;rw [beq_eq_false_iff_ne];exact fun e=>h (List.prefix_iff_eq_take.2 e.symm)
  ·left;exact decide_eq_false hl
theorem zF9 (l:BL) (a b:Nat):(⟨l.toArray⟩:ByteArray).extract a b=⟨((l.drop a).take (b - a)).toArray⟩:=by
 apply ByteArray.ext;apply Array.ext';simp [ByteArray.data_extract,List.extract_eq_take_drop]
structure zAA (b:Nat) (w w':World):Prop where
 os:w'.os=w.os
 tape:w'.tape=w.tape
 output:w'.output=w.output
 size:w.heap.size<=w'.heap.size
 block:∀ k,k ≠ b->k<w.heap.size->w'.heap[k]?=w.heap[k]?
theorem zAA.refl (b:Nat) (w:World):zAA b w w:=⟨rfl,rfl,rfl,Nat.le_refl _,fun _ _ _=>rfl⟩
theorem zAA.trans {b:Nat} {u v w:World} (h:zAA b u v) (k:zAA b v w):zAA b u w:=
 ⟨k.os.trans h.os,k.tape.trans h.tape,k.output.trans h.output,Nat.le_trans h.size k.size,fun i hi hl=>(k.block i hi (Nat.lt_of_lt_of_le hl h.size)).trans (h.block i hi hl)⟩
theorem zAA.of_ext {b:Nat} {w w':World} (h:Ext w w'):zAA b w w':=⟨h.os,h.tape,h.output,h.size,fun k _ hl=>h.block k hl⟩
theorem zAA.ext {b:Nat} {w0 w w':World} (x:Ext w0 w) (h:zAA b w w') (hb:w0.heap.size<=b):Ext w0 w':=
 ⟨h.os.trans x.os,h.tape.trans x.tape,h.output.trans x.output,Nat.le_trans x.size h.size,fun k hk=>(h.block k (by omega) (Nat.lt_of_lt_of_le hk x.size)).trans (x.block k hk)⟩
theorem zAA.drewN {b:Nat} {w w':World} (h:zAA b w w') (n:Nat):zAA b w (w'.drewN n):=⟨h.os,h.tape,h.output,h.size,h.block⟩
theorem zAA.set {b i:Nat} {w w':World} (h:zAA b w w') (u:Value):zAA b w (w'.setCell ⟨b,i,none⟩ u):=
 h.trans ⟨rfl,rfl,rfl,by simp [World.setCell],fun k hk _=>Below.heap_setCell _ _ _ _ hk⟩
theorem zAA.cell {b k o:Nat} {w w':World} (h:zAA b w w') (hk:k ≠ b) {v:Value} (hc:w.cell? ⟨k,o,none⟩=some v):w'.cell? ⟨k,o,none⟩=some v:=by
 have hl:k<w.heap.size:=World.block_lt_of_cell? _ _ hc;unfold World.cell? at hc ⊢;rw [h.block k hk hl];exact hc
theorem zAA.frozen {b k o:Nat} {w w':World} (h:zAA b w w') (hk:k ≠ b) {v:Value} (hc:w.cell? ⟨k,o,none⟩=some v) (hf:w.frozen? ⟨k,o,none⟩=false):w'.frozen? ⟨k,o,none⟩=false:=by
 have hl:k<w.heap.size:=World.block_lt_of_cell? _ _ hc;unfold World.frozen? at hf ⊢;rw [h.block k hk hl];exact hf
theorem zAA.vec {b k:Nat} {w w':World} {l:List Value} (h:zAA b w w') (hk:k ≠ b) (v:Vec w k l):Vec w' k l:=fun i u hi=>⟨h.cell hk (v i u hi).1,h.frozen hk (v i u hi).1 (v i u hi).2⟩
theorem xdNk {a b:World} (h:Ext a b) (n:Nat):Ext a (b.drewN n):=⟨h.os,h.tape,h.output,h.size,h.block⟩
def AtK (w:World) (b:Nat) (l:BL) (k:Nat):Prop:=Vec w b [sV l,iQ (k:Int)]/\k<=l.length/\l.length<=1000
theorem AtK.l {w w':World} {b:Nat} {l:BL} {k:Nat} (h:AtK w b l k) (x:Ext w w'):AtK w' b l k:=⟨h.1.l x,h.2⟩
theorem AtK.drewN {w:World} {b:Nat} {l:BL} {k:Nat} (h:AtK w b l k) (n:Nat):AtK (w.drewN n) b l k:=h.l (xdNk (xr _) n)
theorem AtK.put {w:World} {b:Nat} {l:BL} {k:Nat} (h:AtK w b l k) (j:Nat) (hj:j<=l.length):AtK (w.setCell ⟨b,1,none⟩ (iQ (j:Int))) b l j:=⟨h.1.put 1 (by simp) _,hj,h.2.2⟩
theorem isK (b:Nat) (l s:BL) (k:Nat) (w:World) (h:AtK w b l k) (hs:s.length<=1000) :
  Calls Tryz.prog 102 #[.pointer (some ⟨b,0,none⟩),sV s] w fun e w'=>e=.returned (.bool (Lib.hasPrefix (l.drop k) s))/\∃ n,w'=w.drewN n:=by
 obtain ⟨hv,hk,hl⟩:=h;have c0:w.cell? ⟨b,0,none⟩=some (.string ⟨l.toArray⟩):=(hv 0 _ rfl).1;have c1:=(hv 1 _ rfl).1;rw [zDN,List.length_drop];have EX:=zF9 l k (k+s.length);rw [show k+s.length - k=s.length by omega] at EX;have z1:(⟨l.toArray⟩:ByteArray).size=l.length:=rfl;have z2:(⟨s.toArray⟩:ByteArray).size=s.length:=rfl;obtain ⟨q,hq⟩:=nm (((l.drop k).take s.length == s));have HB:((⟨((l.drop k).take s.length).toArray⟩:ByteArray).toList == (⟨s.toArray⟩:ByteArray).toList)=q:=by rw [ByteArray.toList_eq,ByteArray.toList_eq];exact hq
 rw [hq];obtain ⟨S,hS⟩:=nm ((⟨l.toArray⟩:ByteArray));obtain ⟨T,hT⟩:=nm ((⟨s.toArray⟩:ByteArray));obtain ⟨X,hX⟩:=nm ((⟨((l.drop k).take s.length).toArray⟩:ByteArray));obtain ⟨n,hn⟩:=nm (l.length);obtain ⟨m,hm⟩:=nm (s.length);show Calls Tryz.prog 102 #[.pointer (some ⟨b,0,none⟩),.string ⟨s.toArray⟩] w _;rw [hS] at EX z1 c0;rw [hT] at z2 HB ⊢;rw [hX] at EX HB;rw [hn] at z1 hk hl ⊢;rw [hm] at z2 EX hs ⊢;clear hq hS hT hX hn hm hv;by_cases hc:m<=n - k
 ·have i1:(m:Int)<=(n:Int) - (k:Int):=by omega
  have f1:decide ((n:Int) - (k:Int) >= (m:Int))=true:=by simp;omega
  rw [decide_eq_true hc];cases q
  all_goals
   go_enter Tryz.func102,Tryz.ntmps102;go_wp2_with fail;go_quiet (fail);go_wp2_with fail;go_ret
   first | exact ⟨rfl,⟨_,rfl⟩⟩ | exact ⟨by simp [EX],⟨_,rfl⟩⟩ | exact ⟨by simp [EX,HB],⟨_,rfl⟩⟩
 ·have i1:(n:Int) - (k:Int)<(m:Int):=by omega
  have f1:decide ((n:Int) - (k:Int) >= (m:Int))=false:=by simp;omega
  rw [decide_eq_false hc];go_enter Tryz.func102,Tryz.ntmps102;go_wp2_with fail;go_quiet (fail);go_wp2_with fail;go_ret;exact ⟨rfl,⟨_,rfl⟩⟩
theorem zO5 {l s:BL} {k:Nat} (h:Lib.hasPrefix (l.drop k) s=true):k+s.length<=l.length\/s=[]:=by
 rw [zDN,List.length_drop] at h;simp at h
 rcases Nat.eq_zero_or_pos s.length with h0 | h0
 ·right;exact List.length_eq_zero_iff.1 h0
 ·left;omega
theorem zON (b:Nat) (l s:BL) (k:Nat) (w:World) (h:AtK w b l k) (hs:s.length<=1000) :
  Calls Tryz.prog 52 #[.pointer (some ⟨b,0,none⟩),sV s] w fun e w'=>e=.returned (.bool (Lib.hasPrefix (l.drop k) s))/\AtK w' b l (if Lib.hasPrefix (l.drop k) s then k+s.length else k)/\zAA b w w':=by
 have CI:=isK b l s k w h hs;have hk1:=h.2.1;have hl1:=h.2.2;have hd:Lib.hasPrefix (l.drop k) s=true->k+s.length<=l.length:=fun q=>by
  rcases zO5 q with h1 | h1
  ·exact h1
  ·rw [h1];simpa using hk1
 have HA:Hid (∀ n,AtK (w.drewN n) b l k):=fun n=>h.drewN n;have HP:Hid (k+s.length<=l.length->∀ n,AtK ((w.drewN n).setCell ⟨b,1,none⟩ (iQ ((k:Int)+(s.length:Int)))) b l (k+s.length)):=fun hh n=>by
  have:=(h.drewN n).put (k+s.length) hh;rw [Int.natCast_add] at this;exact this
 have c1:∀ n,(w.drewN n).cell? ⟨b,1,none⟩=some (iQ (k:Int)):=fun n=>(h.1 1 _ rfl).1;have f1:∀ n,(w.drewN n).frozen? ⟨b,1,none⟩=false:=fun n=>(h.1 1 _ rfl).2;clear h;have z2:(⟨s.toArray⟩:ByteArray).size=s.length:=rfl;obtain ⟨m,hm⟩:=nm (s.length);rw [hm] at z2 hs hd HP ⊢;obtain ⟨p,hp⟩:=nm (Lib.hasPrefix (l.drop k) s);rw [hp] at CI hd ⊢;clear hp hm;cases p
 ·clear hd HP;go_enter Tryz.func52,Tryz.ntmps52;go_wp2_with fail;refine CI.mono ?_;rintro e w1 ⟨rfl,n,rfl⟩;go_wp2_with fail;go_ret;exact ⟨rfl,HA.out n,(zAA.refl b w).drewN n⟩
 ·have hd:=hd rfl;have HP2:Hid (∀ n,AtK ((w.drewN n).setCell ⟨b,1,none⟩ (iQ ((k:Int)+(m:Int)))) b l (k+m)):=HP.out hd;clear HP;go_enter Tryz.func52,Tryz.ntmps52;go_wp2_with fail;refine CI.mono ?_;rintro e w1 ⟨rfl,n,rfl⟩;have d1:=c1 n;have d2:=f1 n;go_wp2_with fail;go_ret;exact ⟨rfl,HP2.out n,((zAA.refl b w).drewN n).set _⟩
theorem zN8 (c:UInt8) (r:BL):runF c 0 r=0:=by unfold runF;omega
theorem zH3 {c:UInt8} {m:Nat} {r:BL} (h:Lib.hasPrefix r [c]=false):runF c m r=0:=by
 unfold runF;cases r with
 | nil=>simp
 | cons d r =>
  have:(d == c)=false:=by
   unfold Lib.hasPrefix at h;simp [List.isPrefixOf] at h;rw [beq_eq_false_iff_ne];exact fun e=>h e.symm
  simp [List.takeWhile,this]
theorem zJH {c:UInt8} {m:Nat} {r:BL} (h:Lib.hasPrefix r [c]=true) (hm:0<m):runF c m r=1+runF c (m - 1) (r.drop 1):=by
 unfold runF;cases r with
 | nil=>simp [Lib.hasPrefix,List.isPrefixOf] at h
 | cons d r =>
  have:(d == c)=true:=by
   unfold Lib.hasPrefix at h;simp [List.isPrefixOf] at h;rw [h];simp
  simp only [List.takeWhile,this,List.drop_succ_cons,List.drop_zero,List.length_cons];omega
theorem zC2 (c:UInt8) (m:Nat) (r:BL):runF c m r<=m:=by unfold runF;omega
theorem zDF (c:UInt8) (m:Nat) (r:BL):runF c m r<=r.length:=by
 unfold runF;have:=(List.takeWhile_prefix (p:=(· == c)) (l:=r)).length_le;omega
theorem manyK (b:Nat) (l:BL) (c:UInt8) (m k:Nat) (w:World) (h:AtK w b l k) (hm:m<=100) :
  Calls Tryz.prog 103 #[.pointer (some ⟨b,0,none⟩),sV [c],iQ (m:Int)] w fun e w'=>e=.returned (iQ (runF c m (l.drop k):Nat))/\AtK w' b l (k+runF c m (l.drop k))/\zAA b w w':=by
 obtain ⟨R,hR⟩:=nm (runF c m (l.drop k));have H0:Hid (0+runF c (m - 0) (l.drop (k+0))=R):=by show _=_;rw [Nat.sub_zero,Nat.add_zero,Nat.zero_add];exact hR
 have HW:Hid (AtK w b l (k+0)):=h;rw [hR];clear hR h;go_enter Tryz.func103,Tryz.ntmps103;go_wp2_with fail;go_loopw [7] (fun i wr=>∃ j:Nat,j<=m/\i=.int .i64 j/\Hid (j+runF c (m - j) (l.drop (k+j))=R)/\Hid (AtK wr b l (k+j))/\zAA b w wr) (fun i _=>m - (intOf i).toNat)
 case atStart=>exact ⟨0,by omega,rfl,H0,HW,zAA.refl _ _⟩
 case round =>
  obtain ⟨j,hj,rfl,HJ,HA,O⟩:=hrel;by_cases hlt:j<m
  ·have i2:(j:Int)<(m:Int):=by omega
   have CT:=zON b l [c] (k+j) wr HA.out (by simp);obtain ⟨p,hp⟩:=nm (Lib.hasPrefix (l.drop (k+j)) [c]);rw [hp] at CT;have CT:Calls Tryz.prog 52 #[.pointer (some ⟨b,0,none⟩),sV [c]] wr fun e w'=>e=.returned (.bool p)/\AtK w' b l (if p=true then k+j+1 else k+j)/\zAA b wr w':=CT;cases p
   ·have HE:Hid (j=R):=by
     show _=_;have:=HJ.out;rw [zH3 hp] at this;omega
    clear HA HJ hp;go_wp2_with fail;refine CT.mono ?_;rintro e w1 ⟨rfl,hA,o1⟩;go_wp2_with fail;go_ret;exact ⟨zA8 (by rw [<- HE.out]),by rw [<- HE.out];exact hA,O.trans o1⟩
   ·have HE:Hid ((j+1)+runF c (m - (j+1)) (l.drop (k+(j+1)))=R):=by
     show _=_;have:=HJ.out;rw [zJH hp (by omega),List.drop_drop] at this;rw [show k+(j+1)=k+j+1 by omega,show m - (j+1)=m - j - 1 by omega];omega
    clear HA HJ hp;go_wp2_with fail;refine CT.mono ?_;rintro e w1 ⟨rfl,hA,o1⟩;have HA2:Hid (AtK w1 b l (k+(j+1))):=hA;clear hA;go_wp2_with fail;go_roundw
    case rel=>exact ⟨j+1,by omega,by go_num,HE,HA2,O.trans o1⟩
    case measure=>simp [intOf];omega
  ·obtain rfl:j=m:=by omega
   have HE:Hid (j=R):=by
    show _=_;have:=HJ.out;rw [Nat.sub_self,zN8] at this;omega
   clear HJ;go_wp2_with fail;go_ret;exact ⟨zA8 (by rw [<- HE.out]),by rw [<- HE.out];exact HA.out,O⟩
theorem zK1 {l:BL} {j:Nat} (h:j<l.length):l.drop j=l.getD j 0 :: l.drop (j+1):=zVZ h
def zGL (l:BL) (k j:Nat) (P:UInt8->Bool):Prop:=k<=j/\j<=l.length/\(l.drop k).take (j - k)++(l.drop j).takeWhile P=(l.drop k).takeWhile P/\(l.drop j).dropWhile P=(l.drop k).dropWhile P
theorem zGL.start {l:BL} {k:Nat} {P:UInt8->Bool} (h:k<=l.length):zGL l k k P:=⟨Nat.le_refl _,h,by simp,rfl⟩
theorem zGL.step {l:BL} {k j:Nat} {P:UInt8->Bool} (h:zGL l k j P) (hj:j<l.length) (hp:P (l.getD j 0)=true):zGL l k (j+1) P:=by
 obtain ⟨h1,h2,h3,h4⟩:=h;refine ⟨by omega,by omega,?_,?_⟩
 ·rw [<- h3,zK1 hj];simp only [List.takeWhile,hp];rw [show j+1 - k=(j - k)+1 by omega,List.take_add_one];have:(l.drop k)[j - k]?=some (l.getD j 0):=by
   rw [List.getElem?_drop,show k+(j - k)=j by omega,List.getElem?_eq_getElem hj];simp [hj]
  rw [this];simp
 ·rw [<- h4,zK1 hj];simp only [List.dropWhile,hp]
theorem zGL.stop {l:BL} {k j:Nat} {P:UInt8->Bool} (h:zGL l k j P) (he:j=l.length\/P (l.getD j 0)=false):(l.drop k).takeWhile P=(l.drop k).take (j - k)/\j=k+((l.drop k).takeWhile P).length/\l.drop j=(l.drop k).dropWhile P:=by
 obtain ⟨h1,h2,h3,h4⟩:=h;have ht:(l.drop j).takeWhile P=[]/\(l.drop j).dropWhile P=l.drop j:=by
  by_cases hj:j<l.length
  ·have hp:P (l.getD j 0)=false:=by
    rcases he with he | he
    ·omega
    ·exact he
   rw [zK1 hj];simp only [List.takeWhile,List.dropWhile,hp];exact ⟨trivial,trivial⟩
  ·rw [List.drop_eq_nil_of_le (by omega)];exact ⟨rfl,rfl⟩
 rw [ht.1,List.append_nil] at h3;rw [ht.2] at h4;refine ⟨h3.symm,?_,h4⟩;rw [<- h3,List.length_take,List.length_drop];omega
def nq (c:UInt8):Bool:=c != 34
theorem zSF (r:BL):Lib.hasPrefix (r.dropWhile nq) [34]=decide (r.dropWhile nq ≠ []):=by
 cases h:r.dropWhile nq with
 | nil=>simp [Lib.hasPrefix,List.isPrefixOf]
 | cons c t =>
  have hc:nq c=false:=by
   have:∀ (m:BL),m.dropWhile nq=c :: t->nq c=false:=by
    intro m
    induction m with
    | nil=>intro h;cases h
    | cons d m ih =>
     intro h;cases hd:nq d
     ·simp only [List.dropWhile,hd] at h;cases h;exact hd
     ·simp only [List.dropWhile,hd] at h;exact ih h
   exact this r h
  have:c=34:=by simpa [nq] using hc
  subst this;simp [Lib.hasPrefix,List.isPrefixOf]
theorem qT_eq {l:BL} (h:Lib.hasPrefix l [34]=true):quoS l=if ((l.drop 1).dropWhile nq ≠ [])/\((l.drop 1).takeWhile nq ≠ [])/\((l.drop 1).takeWhile nq).length<=20/\zBW ((l.drop 1).takeWhile nq)=true then some ((l.drop 1).takeWhile nq,((l.drop 1).dropWhile nq).drop 1) else none:=by
 unfold quoS;rw [if_pos h];cases l with
 | nil=>cases h
 | cons c r =>
  have hc:(c == 34)=true:=by
   simp [Lib.hasPrefix,List.isPrefixOf] at h;rw [<- h];rfl
  show (if (c == 34)=true then _ else none)=_;rw [if_pos hc];rfl
theorem quotedK (b:Nat) (l:BL) (k:Nat) (w:World) (h:AtK w b l k) :
  Calls Tryz.prog 101 #[.pointer (some ⟨b,0,none⟩)] w fun e w'=>(∃ k',AtK w' b l k'/\((∃ x,quoS (l.drop k)=some x/\e=.returned (.tuple #[sV x.1,.bool true])/\l.drop k'=x.2/\k<=k')\/(quoS (l.drop k)=none/\e=.returned (.tuple #[sV [],.bool false]))))/\zAA b w w':=by
 have CT:=zON b l [34] k w h (by simp);have hl:l.length<=1000:=h.2.2;have HH:Hid (AtK w b l k):=h;clear h;obtain ⟨p,hp⟩:=nm (Lib.hasPrefix (l.drop k) [34]);rw [hp] at CT;have CT:Calls Tryz.prog 52 #[.pointer (some ⟨b,0,none⟩),sV [34]] w fun e w'=>e=.returned (.bool p)/\AtK w' b l (if p=true then k+1 else k)/\zAA b w w':=CT;cases p
 ·have HQ:Hid (quoS (l.drop k)=some ([],l.drop k)):=by show _=_;unfold quoS;rw [hp];rfl
  clear hp;go_enter Tryz.func101,Tryz.ntmps101;go_wp2_with fail;refine CT.mono ?_;rintro e w1 ⟨rfl,hA,o1⟩;go_wp2_with fail;exact bodyPost_ret (v:=.tuple #[sV [],.bool true]) (by simp [results,Tryz.results101,go_sem]) rfl ⟨⟨k,hA,.inl ⟨_,HQ.out,rfl,rfl,Nat.le_refl _⟩⟩,o1⟩
 ·have hk1:k+1<=l.length:=by
   rcases zO5 hp with h1 | h1
   ·exact h1
   ·cases h1
  have HQ:=qT_eq hp;rw [List.drop_drop] at HQ;have HQ:Hid (quoS (l.drop k)=if ((l.drop (k+1)).dropWhile nq ≠ [])/\((l.drop (k+1)).takeWhile nq ≠ [])/\((l.drop (k+1)).takeWhile nq).length<=20/\zBW ((l.drop (k+1)).takeWhile nq)=true then some ((l.drop (k+1)).takeWhile nq,((l.drop (k+1)).dropWhile nq).drop 1) else none):=HQ;obtain ⟨Q,hQ⟩:=nm (quoS (l.drop k));rw [hQ] at HQ ⊢;clear hp hQ;go_enter Tryz.func101,Tryz.ntmps101;go_wp2_with fail;refine CT.mono ?_;rintro e w1 ⟨rfl,hA,o1⟩;have hA:AtK w1 b l (k+1):=hA;have c1:w1.cell? ⟨b,1,none⟩=some (iQ ((k+1:Nat):Int)):=(hA.1 1 _ rfl).1;clear CT HH;go_wp2_with fail;clear c1
  go_loopg [] (l.length - (k+1)) (fun gk wr=>∃ j:Nat,Hid (j+gk=l.length)/\Hid (AtK wr b l j)/\Hid (zGL l (k+1) j nq)/\zAA b w wr)
  case atStart=>exact ⟨k+1,by show _=_;omega,hA,zGL.start hk1,o1⟩
  case round =>
   clear hA o1;obtain ⟨j,HG,HA,HS,O⟩:=hrel;have hj:=HA.out.2.1;have c0:wr.cell? ⟨b,0,none⟩=some (.string ⟨l.toArray⟩):=(HA.out.1 0 _ rfl).1;obtain ⟨c1,f1⟩:=HA.out.1 1 _ rfl;obtain ⟨s,hs⟩:∃ s:ByteArray,(⟨l.toArray⟩:ByteArray)=s:=⟨_,rfl⟩;have HSL:Hid (s.data.toList=l):=by show _=_;rw [<- hs]
   have hsz:=zDM HSL.out;have EX:=zF9 l (k+1) j;rw [hs] at c0 EX;clear hs;obtain ⟨n,hn⟩:=nm (l.length);have HN:Hid (l.length=n):=hn;rw [hn] at hj hl hk1 hsz;clear hn;by_cases hgo:j<n/\nq (l.getD j 0)=true
   ·obtain ⟨hlt,hq⟩:=hgo;have hks:j<s.size:=(by omega);have hb0:=zD9 HSL.out hks;have HS2:Hid (zGL l (k+1) (j+1) nq):=HS.out.step (by rw [HN.out];exact hlt) hq;obtain ⟨c,hcc⟩:=nm (l.getD j 0);rw [hcc] at hb0 hq;have hb:((s[j]'hks).toNat:Int)=(c.toNat:Int):=(by rw [hb0]);have hc34:c.toNat ≠ 34:=by
     intro e;have:c=34:=UInt8.toNat_inj.1 (by rw [e];rfl);rw [this] at hq;cases hq
    obtain ⟨N,hN⟩:∃ N:Int,(c.toNat:Int)=N:=⟨_,rfl⟩;rw [hN] at hb;have n1:N ≠ 34:=(by omega);have i2:(j:Int)<(n:Int):=(by omega);have g1:decide ((j:Int)<(n:Int))=true:=(by simp;omega);have HP:Hid (∀ q,AtK ((wr.drewN q).setCell ⟨b,1,none⟩ (iQ ((j:Int)+1))) b l (j+1)):=fun q=>by
     have:=(HA.out.drewN q).put (j+1) (by rw [HN.out];omega);rw [Int.natCast_add] at this;exact this
    clear hN hcc hb0 hq hc34 HS HA EX HQ;go_wp2_with fail;go_quiet (fail);go_wp2_with fail
    go_roundg (gk - 1)
    case measure=>have:=HG.out;have:=HN.out;omega
    case rel=>exact ⟨j+1,by show _=_;have:=HG.out;have:=HN.out;omega,HP.out _,HS2,(O.drewN _).set _⟩
   ·have hst:j=n\/nq (l.getD j 0)=false:=by
     by_cases h1:j<n
     ·right;cases hc:nq (l.getD j 0) with
      | false=>rfl
      | true=>exact absurd ⟨h1,hc⟩ hgo
     ·left;omega
    obtain ⟨hT,hjT,hD⟩:=HS.out.stop (by rw [HN.out];exact hst);have hkj:=HS.out.1;clear HS hgo;have hfin:∀ (W:World),zAA b w W->AtK W b l j->s.extract (k+1) j=⟨((l.drop (k+1)).takeWhile nq).toArray⟩->True:=fun _ _ _ _=>trivial;clear hfin;rw [<- hT] at EX;have hnh:=zSF (l.drop (k+1));obtain ⟨T,hTT⟩:=nm ((l.drop (k+1)).takeWhile nq);obtain ⟨D,hDD⟩:=nm ((l.drop (k+1)).dropWhile nq);rw [hTT] at EX hjT HQ;rw [hDD] at hD hnh HQ;clear hT hTT hDD;obtain ⟨X,hX⟩:=nm (s.extract (k+1) j);rw [hX] at EX;have hXs:X.size=T.length:=(by rw [EX];rfl);have hTl:T.length<=1000:=(by omega);have CT2:=fun W (hW:AtK W b l j)=>zON b l [34] j W hW (by simp);rw [hD,hnh] at CT2;have PT:∀ W,Calls Tryz.prog 77 #[.string X,iQ 20] W fun e w'=>e=.returned (.bool (zE4 20 T))/\w'=W:=fun W=>(by rw [EX];exact printS 20 T W (by omega));have HXV:Hid (X=⟨T.toArray⟩):=EX;have HD:Hid (l.drop j=D):=hD;have i0:(0:Int)<=(k:Int)+1:=(by omega);have i1:(k:Int)+1<=(j:Int):=(by omega);have i3:(j:Int)<=(n:Int):=(by omega);clear EX hD hnh hjT;by_cases hD0:D=[]
    ·have HQ2:Hid (Q=none):=(by show _=_;rw [HQ.out,if_neg (fun h=>h.1 hD0)]);have CT3:∀ W,AtK W b l j->Calls Tryz.prog 52 #[.pointer (some ⟨b,0,none⟩),sV [34]] W fun e w'=>e=.returned (.bool false)/\AtK w' b l j/\zAA b W w':=fun W hW=>by
      have:=CT2 W hW;rw [decide_eq_false (fun h=>h hD0)] at this;exact this
     have hjn:j=n:=by
      have:=congrArg List.length HD.out;rw [hD0,List.length_drop,HN.out] at this;simp at this;omega
     have g1:decide ((j:Int)<(n:Int))=false:=(by simp;omega);have i2:(n:Int)<=(j:Int):=(by omega);have g2:¬ (j<n):=(by omega);clear CT2 HQ PT hD0 hst hjn;go_wp2_with fail;go_quiet (fail);go_wp2_with fail;go_quiet (fail);go_wp2_with fail;refine (CT3 _ (HA.out.drewN _)).mono ?_;rintro e w2 ⟨rfl,hA2,o2⟩;go_wp2_with fail;exact bodyPost_ret (v:=.tuple #[sV [],.bool false]) (by simp [results,Tryz.results101,go_sem]) rfl ⟨⟨j,hA2,.inr ⟨HQ2.out,rfl⟩⟩,(O.drewN _).trans o2⟩
    ·have CT3:∀ W,AtK W b l j->Calls Tryz.prog 52 #[.pointer (some ⟨b,0,none⟩),sV [34]] W fun e w'=>e=.returned (.bool true)/\AtK w' b l (j+1)/\zAA b W w':=fun W hW=>by
      have:=CT2 W hW;rw [decide_eq_true hD0] at this;exact this
     have hjn:j<n:=by
      have h0:D.length ≠ 0:=fun h=>hD0 (List.length_eq_zero_iff.1 h);have:=congrArg List.length HD.out;rw [List.length_drop,HN.out] at this;omega
     have HD1:Hid (l.drop (j+1)=D.drop 1):=(by show _=_;rw [<- HD.out,List.drop_drop]);have hks:j<s.size:=(by omega);have hb0:=zD9 HSL.out hks;have hq34:nq (l.getD j 0)=false:=by
      rcases hst with h1 | h1
      ·omega
      ·exact h1
     obtain ⟨c,hcc⟩:=nm (l.getD j 0);rw [hcc] at hb0 hq34;have hb:((s[j]'hks).toNat:Int)=34:=by
      rw [hb0];have:c=34:=(by simpa [nq] using hq34);rw [this];rfl
     have g1:decide ((j:Int)<(n:Int))=true:=(by simp;omega);have i2:(j:Int)<(n:Int):=(by omega);clear CT2 hst hcc hb0 hq34;by_cases hT0:T.length<1
     ·have HQ2:Hid (Q=none):=(by show _=_;rw [HQ.out,if_neg (fun h=>h.2.1 (List.length_eq_zero_iff.1 (by omega)))]);have t0:(T.length:Int)<1:=(by omega);clear HQ PT hT0;go_wp2_with fail;go_quiet (fail);go_wp2_with fail;go_quiet (fail);go_wp2_with fail;refine (CT3 _ (HA.out.drewN _)).mono ?_;rintro e w2 ⟨rfl,hA2,o2⟩;go_wp2_with fail;exact bodyPost_ret (v:=.tuple #[sV [],.bool false]) (by simp [results,Tryz.results101,go_sem]) rfl ⟨⟨j+1,hA2,.inr ⟨HQ2.out,rfl⟩⟩,(O.drewN _).trans o2⟩
     ·have t0:1<=(T.length:Int):=(by omega);have HT0:Hid (T ≠ []):=fun e=>hT0 (by rw [e];decide);obtain ⟨pr,hpr⟩:=nm (zE4 20 T);rw [hpr] at PT;cases pr
      ·have HQ2:Hid (Q=none):=by
        show _=_;rw [HQ.out,if_neg];rintro ⟨_,_,h3,h4⟩;unfold zE4 at hpr;unfold zBW at h4;rw [h4,decide_eq_true h3] at hpr;cases hpr
       clear HQ hT0 hpr;go_wp2_with fail;go_quiet (fail);go_wp2_with fail;go_quiet (fail);go_wp2_with fail;refine (CT3 _ (HA.out.drewN _)).mono ?_;rintro e w2 ⟨rfl,hA2,o2⟩;go_wp2_with fail;refine (PT _).mono ?_;rintro e w3 ⟨rfl,rfl⟩;go_wp2_with fail;exact bodyPost_ret (v:=.tuple #[sV [],.bool false]) (by simp [results,Tryz.results101,go_sem]) rfl ⟨⟨j+1,hA2,.inr ⟨HQ2.out,rfl⟩⟩,(O.drewN _).trans o2⟩
      ·have HQ2:Hid (Q=some (T,D.drop 1)):=by
        show _=_;unfold zE4 at hpr;rw [Bool.and_eq_true] at hpr;rw [HQ.out,if_pos ⟨hD0,HT0.out,of_decide_eq_true hpr.2,hpr.1⟩]
       clear HQ hT0 hpr;go_wp2_with fail;go_quiet (fail);go_wp2_with fail;go_quiet (fail);go_wp2_with fail;refine (CT3 _ (HA.out.drewN _)).mono ?_;rintro e w2 ⟨rfl,hA2,o2⟩;go_wp2_with fail;refine (PT _).mono ?_;rintro e w3 ⟨rfl,rfl⟩;go_wp2_with fail;exact bodyPost_ret (v:=.tuple #[.string X,.bool true]) (by simp [results,Tryz.results101,go_sem]) rfl ⟨⟨j+1,hA2,.inl ⟨_,HQ2.out,by rw [HXV.out],HD1.out,by omega⟩⟩,(O.drewN _).trans o2⟩
theorem zL2 (c:UInt8):(c.toNat<65/\letF c=false)\/(65<=c.toNat/\c.toNat<=90/\letF c=true)\/(90<c.toNat/\c.toNat<97/\letF c=false)\/(97<=c.toNat/\c.toNat<=122/\letF c=true)\/(122<c.toNat/\letF c=false):=by
 unfold letF;by_cases h1:c.toNat<65
 ·left;exact ⟨h1,decide_eq_false (by omega)⟩
 by_cases h2:c.toNat<=90
 ·right;left;exact ⟨by omega,h2,decide_eq_true (by omega)⟩
 by_cases h3:c.toNat<97
 ·right;right;left;exact ⟨by omega,h3,decide_eq_false (by omega)⟩
 by_cases h4:c.toNat<=122
 ·right;right;right;left;exact ⟨by omega,h4,decide_eq_true (by omega)⟩
 ·right;right;right;right;exact ⟨by omega,decide_eq_false (by omega)⟩
theorem letterS (c:UInt8) (w:World):Calls Tryz.prog 151 #[.int .u8 (c.toNat:Int)] w fun e w'=>e=.returned (.bool (letF c))/\w'=w:=by
 have h:=zL2 c;obtain ⟨N,hN⟩:∃ N:Int,(c.toNat:Int)=N:=⟨_,rfl⟩;have h0:0<=N:=by omega
 have h':(N<65/\letF c=false)\/(65<=N/\N<=90/\letF c=true)\/(90<N/\N<97/\letF c=false)\/(97<=N/\N<=122/\letF c=true)\/(122<N/\letF c=false):=by
  rw [<- hN]
  rcases h with ⟨h1,h2⟩ | ⟨h1,h2,h3⟩ | ⟨h1,h2,h3⟩ | ⟨h1,h2,h3⟩ | ⟨h1,h2⟩
  ·exact .inl ⟨by omega,h2⟩
  ·exact .inr (.inl ⟨by omega,by omega,h3⟩)
  ·exact .inr (.inr (.inl ⟨by omega,by omega,h3⟩))
  ·exact .inr (.inr (.inr (.inl ⟨by omega,by omega,h3⟩)))
  ·exact .inr (.inr (.inr (.inr ⟨by omega,h2⟩)))
 rw [hN];obtain ⟨b,hb⟩:=nm (letF c);rw [hb] at h' ⊢;clear hN hb h
 rcases h' with ⟨h1,rfl⟩ | ⟨h1,h2,rfl⟩ | ⟨h1,h2,rfl⟩ | ⟨h1,h2,rfl⟩ | ⟨h1,rfl⟩
 all_goals
  go_enter Tryz.func151,Tryz.ntmps151;go_wp2_with fail;go_ret
  first | exact ⟨rfl,rfl⟩ | exact ⟨zA5 (by simp;omega),rfl⟩
theorem letterI (c:UInt8) (w:World):Calls Tryz.prog 164 #[.int .u8 (c.toNat:Int)] w fun e w'=>e=.returned (.bool (letF c))/\w'=w:=by
 have h:=zL2 c;obtain ⟨N,hN⟩:∃ N:Int,(c.toNat:Int)=N:=⟨_,rfl⟩;have h0:0<=N:=by omega
 have h':(N<65/\letF c=false)\/(65<=N/\N<=90/\letF c=true)\/(90<N/\N<97/\letF c=false)\/(97<=N/\N<=122/\letF c=true)\/(122<N/\letF c=false):=by
  rw [<- hN]
  rcases h with ⟨h1,h2⟩ | ⟨h1,h2,h3⟩ | ⟨h1,h2,h3⟩ | ⟨h1,h2,h3⟩ | ⟨h1,h2⟩
  ·exact .inl ⟨by omega,h2⟩
  ·exact .inr (.inl ⟨by omega,by omega,h3⟩)
  ·exact .inr (.inr (.inl ⟨by omega,by omega,h3⟩))
  ·exact .inr (.inr (.inr (.inl ⟨by omega,by omega,h3⟩)))
  ·exact .inr (.inr (.inr (.inr ⟨by omega,h2⟩)))
 rw [hN];obtain ⟨b,hb⟩:=nm (letF c);rw [hb] at h' ⊢;clear hN hb h
 rcases h' with ⟨h1,rfl⟩ | ⟨h1,h2,rfl⟩ | ⟨h1,h2,rfl⟩ | ⟨h1,h2,rfl⟩ | ⟨h1,rfl⟩
 all_goals
  go_enter Tryz.func164,Tryz.ntmps164;go_wp2_with fail;go_ret
  first | exact ⟨rfl,rfl⟩ | exact ⟨zA5 (by simp;omega),rfl⟩
theorem zMX {l:BL} {k:Nat} {o:BL} (hk:zAG[k]?=some o) (hp:Lib.hasPrefix l o=true) (hn:∀ (j:Nat) o,j<k->zAG[j]?=some o->Lib.hasPrefix l o=false):zAC l=o:=by
 unfold zAC;have:zAG.find? (fun o=>Lib.hasPrefix l o)=some o:=by
  rw [List.find?_eq_some_iff_getElem];obtain ⟨hk1,hk2⟩:=List.getElem?_eq_some_iff.1 hk;refine ⟨hp,k,hk1,hk2,fun j hj=>?_⟩;rw [hn j _ hj (List.getElem?_eq_getElem (Nat.lt_trans hj hk1))];rfl
 rw [this];rfl
theorem zG3 {l:BL} (hn:∀ (j:Nat) o,zAG[j]?=some o->Lib.hasPrefix l o=false):zAC l=[]:=by
 unfold zAC;have:zAG.find? (fun o=>Lib.hasPrefix l o)=none:=by
  rw [List.find?_eq_none];intro o ho;obtain ⟨j,hj⟩:=List.getElem?_of_mem ho;rw [hn j o hj];decide
 rw [this];rfl
theorem zQL (l:BL):zAC l=[]\/(zAC l ∈ zAG/\Lib.hasPrefix l (zAC l)=true):=by
 unfold zAC;cases h:zAG.find? (fun o=>Lib.hasPrefix l o) with
 | none=>left;rfl
 | some o=>right;exact ⟨List.mem_of_find?_eq_some h,List.find?_some (p:=fun o=>Lib.hasPrefix l o) h⟩
theorem zFF (l:BL):(zAC l).length<=l.length:=by
 rcases zQL l with h | h
 ·rw [h];simp
 ·have:=h.2;rw [zDN,Bool.and_eq_true] at this;exact of_decide_eq_true this.1
theorem zPA:∀ (f f':Nat) (l:BL),l.length<=f->l.length<=f'->zA6 f l=zA6 f' l:=by
 intro f
 induction f with
 | zero =>
  intro f' l h _;have:l=[]:=List.length_eq_zero_iff.1 (by omega);subst this;cases f' <;> simp [zA6]
 | succ f ih =>
  intro f' l h h';by_cases hl:l=[]
  ·subst hl;cases f' <;> simp [zA6]
  ·cases f' with
   | zero=>exact absurd (List.length_eq_zero_iff.1 (by omega)) hl
   | succ f' =>
    show (if l=[] then some [] else if zAC l=[] then none else _)=(if l=[] then some [] else if zAC l=[] then none else _);rw [if_neg hl,if_neg hl];by_cases hw:zAC l=[]
    ·rw [if_pos hw,if_pos hw]
    ·rw [if_neg hw,if_neg hw];have h1:1<=(zAC l).length:=by
      rcases Nat.eq_zero_or_pos (zAC l).length with h0 | h0
      ·exact absurd (List.length_eq_zero_iff.1 h0) hw
      ·exact h0
     rw [ih f' (l.drop (zAC l).length) (by rw [List.length_drop];omega) (by rw [List.length_drop];omega)]
theorem zGB {s:BL} {j:Nat} (hj:j<s.length) (hw:zAC (s.drop j)=[]):zA6 (s.length - j) (s.drop j)=none:=by
 have hne:s.drop j ≠ []:=fun e=>by have:=congrArg List.length e;rw [List.length_drop] at this;simp at this;omega
 rw [show s.length - j=(s.length - j - 1)+1 by omega];show (if s.drop j=[] then some [] else if zAC (s.drop j)=[] then none else _)=_;rw [if_neg hne,if_pos hw]
theorem zIU {s:BL} {j:Nat} (hj:j<s.length) (hw:zAC (s.drop j) ≠ []):zA6 (s.length - j) (s.drop j)=(zA6 (s.length - (j+(zAC (s.drop j)).length)) (s.drop (j+(zAC (s.drop j)).length))).map (zAC (s.drop j) :: ·):=by
 have hne:s.drop j ≠ []:=fun e=>by have:=congrArg List.length e;rw [List.length_drop] at this;simp at this;omega
 have hle:=zFF (s.drop j);rw [List.length_drop] at hle;have h1:1<=(zAC (s.drop j)).length:=by
  rcases Nat.eq_zero_or_pos (zAC (s.drop j)).length with h0 | h0
  ·exact absurd (List.length_eq_zero_iff.1 h0) hw
  ·exact h0
 conv=>lhs;rw [show s.length - j=(s.length - j - 1)+1 by omega]
 show (if s.drop j=[] then some [] else if zAC (s.drop j)=[] then none else _)=_;rw [if_neg hne,if_neg hw,List.drop_drop];rw [zPA (s.length - j - 1) (s.length - (j+(zAC (s.drop j)).length)) _ (by rw [List.length_drop];omega) (by rw [List.length_drop];omega)]
theorem zRU (s:BL):zA6 (s.length - s.length) (s.drop s.length)=some []:=by simp [zA6]
abbrev OwnT (w:World) (base:Nat) (v:Value) (l:List BL):Prop:=w.ownsRow base 9 1 v l.length (l.map sV)
theorem zIV {w w':World} {base:Nat} {v:Value} {l:List BL} (h:OwnT w base v l) (hx:Ext w w'):OwnT w' base v l:=by
 refine ⟨h.1,h.2.imp id ?_⟩;rintro ⟨g,cap,cur,h1,h2,h3,h4⟩;have hlt:g<w.heap.size:=by
  rcases Nat.lt_or_ge g w.heap.size with h' | h'
  ·exact h'
  ·rw [Array.getElem?_eq_none h'] at h3;cases h3
 exact ⟨g,cap,cur,h1,h2,by rw [hx.block g hlt];exact h3,h4⟩
theorem zKX {w w':World} {b base:Nat} {v:Value} {l:List BL} (h:OwnT w base v l) (hx:zAA b w w') (hb:b<base):OwnT w' base v l:=by
 refine ⟨h.1,h.2.imp id ?_⟩;rintro ⟨g,cap,cur,h1,h2,h3,h4⟩;have hlt:g<w.heap.size:=by
  rcases Nat.lt_or_ge g w.heap.size with h' | h'
  ·exact h'
  ·rw [Array.getElem?_eq_none h'] at h3;cases h3
 exact ⟨g,cap,cur,h1,h2,by rw [hx.block g (by omega) hlt];exact h3,h4⟩
theorem zGC {w:World} {base:Nat} {v:Value} {l:List BL} (h:OwnT w base v l):∀ r,v.ownBlock=some r->base<=r/\r<w.heap.size:=by
 intro r hr
 rcases h.2 with ⟨rfl,_⟩ | ⟨g,cap,cur,rfl,h2,h3,_⟩
 ·cases hr
 ·have:g=r:=by simpa [Value.ownBlock] using hr
  subst this;refine ⟨h2,?_⟩
  rcases Nat.lt_or_ge g w.heap.size with h' | h'
  ·exact h'
  ·rw [Array.getElem?_eq_none h'] at h3;cases h3
theorem zBG {w:World} {base:Nat} {v:Value} {l:List BL} (h:OwnT w base v l):∃ p c,v=.slice p l.length c/\l.length<=c:=by
 rcases h.2 with ⟨rfl,h0⟩ | ⟨g,cap,cur,rfl,_,_,h3,_⟩
 ·exact ⟨none,0,by rw [h0],by omega⟩
 ·exact ⟨_,_,rfl,h3⟩
theorem zJS (w:World) (base:Nat):OwnT w base (.slice none 0 0) []:=World.ownsRow_nil _ _ _ _
theorem zVM:∃ inf,Tryz.prog.info? 9=some inf/\inf.zero=some (.string ByteArray.empty)/\inf.size=1/\inf.bytes=16:=by
 have h:(Tryz.prog.info? 9).map (fun i=>(i.zero,i.size,i.bytes))=some (some (.string ByteArray.empty),1,16):=by kernel_rfl
 cases h':Tryz.prog.info? 9 with
 | none=>rw [h'] at h;cases h
 | some inf =>
  rw [h'] at h;simp at h;exact ⟨inf,rfl,h.1,h.2.1,h.2.2⟩
theorem zKH {w w':World} {g:Nat} {l:List Value} {row:Option Nat} (h:Vec w g l) (hg:w.grownBy w' row) (hr:∀ r,row=some r->r ≠ g) (hl:l ≠ []):Vec w' g l:=by
 have hlt:g<w.heap.size:=by
  cases l with
  | nil=>exact absurd rfl hl
  | cons u l=>exact World.block_lt_of_cell? _ _ (h 0 u rfl).1
 have hb:=hg.block g hlt (fun e=>hr g e.symm rfl);intro i v hi;obtain ⟨a,f⟩:=h i v hi;refine ⟨?_,?_⟩
 ·unfold World.cell? at a ⊢;rw [hb];exact a
 ·unfold World.frozen? at f ⊢;rw [hb];exact f
theorem AtK.grown {w w':World} {b k:Nat} {l:BL} {row:Option Nat} (h:AtK w b l k) (hg:w.grownBy w' row) (hr:∀ r,row=some r->r ≠ b):AtK w' b l k:=⟨zKH h.1 hg hr (by simp),h.2⟩
def zD5:List Value:=[.string ⟨#[121,121,121,121]⟩,.string ⟨#[121,121]⟩,.string ⟨#[109,109]⟩,.string ⟨#[109]⟩,.string ⟨#[100,100]⟩,.string ⟨#[100]⟩,.string ⟨#[104,104]⟩,.string ⟨#[110,110]⟩,.string ⟨#[115,115]⟩,.string ⟨#[45]⟩,.string ⟨#[47]⟩,.string ⟨#[58]⟩,.string ⟨#[46]⟩,.string ⟨#[32]⟩]
theorem zVA (k:Nat) (hk:k<14):∃ o,zAG[k]?=some o/\zD5[k]?=some (sV o)/\1<=o.length/\o.length<=4:=by
 match k,hk with
 | 0,_=>exact ⟨_,rfl,rfl,by decide,by decide⟩
 | 1,_=>exact ⟨_,rfl,rfl,by decide,by decide⟩
 | 2,_=>exact ⟨_,rfl,rfl,by decide,by decide⟩
 | 3,_=>exact ⟨_,rfl,rfl,by decide,by decide⟩
 | 4,_=>exact ⟨_,rfl,rfl,by decide,by decide⟩
 | 5,_=>exact ⟨_,rfl,rfl,by decide,by decide⟩
 | 6,_=>exact ⟨_,rfl,rfl,by decide,by decide⟩
 | 7,_=>exact ⟨_,rfl,rfl,by decide,by decide⟩
 | 8,_=>exact ⟨_,rfl,rfl,by decide,by decide⟩
 | 9,_=>exact ⟨_,rfl,rfl,by decide,by decide⟩
 | 10,_=>exact ⟨_,rfl,rfl,by decide,by decide⟩
 | 11,_=>exact ⟨_,rfl,rfl,by decide,by decide⟩
 | 12,_=>exact ⟨_,rfl,rfl,by decide,by decide⟩
 | 13,_=>exact ⟨_,rfl,rfl,by decide,by decide⟩
theorem marksK (w:World):Calls Tryz.prog 150 #[] w fun e w'=>e=.returned (.slice (some ⟨w.heap.size,0,none⟩) 14 14)/\Vec w' w.heap.size zD5/\Ext w w':=by
 have V:=zA2 w zD5 9;have X:=x1 w (.cells zD5.toArray 9);go_enter Tryz.func150,Tryz.ntmps150;go_wp2_with fail;go_ret;exact ⟨rfl,V,X⟩
end Go.Proofs.YtjlojlgdkfpcdaaGreatDoor

