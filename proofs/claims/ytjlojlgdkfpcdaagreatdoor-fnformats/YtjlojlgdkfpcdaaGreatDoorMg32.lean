/-
  Several texts in one: L2, L3, L4.
-/
import Derived.Test.YtjlojlgdkfpcdaaGreatDoorMg30
import Derived.Deep.DeepCutAuto
import Derived.Deep.RegionWith
import Derived.Deep.QuietTactic
import Derived.BigQuiet
set_option maxRecDepth 8000
set_option maxHeartbeats 8000000
namespace Go.Proofs.YtjlojlgdkfpcdaaGreatDoor
open Go.RowKit
theorem zC8 (s:BL):(quoB s).length<=s.length+2:=by unfold quoB;split <;> simp
theorem zJN {s:BL} (h:s ≠ []):quoB s=34 :: (s++[34]):=by unfold quoB;rw [if_neg h]
theorem szB (l:BL):(⟨l.toArray⟩:ByteArray).size=l.length:=rfl
theorem zAJ (s:BL) (n:Nat) (h:s.length=1):(repF s n).length=n:=by rw [zNF,h,Nat.mul_one]
theorem codeSS (f:KT) (w:World) (hb:f.bf.length<=200) (ha:f.af.length<=200) (hd:f.dt.length<=200) :
  Calls Tryz.prog 23 #[.agg f.cells.toArray] w fun e w'=>e=.returned (sV (zI0 f))/\Ext w w':=by
 obtain ⟨ng,bf,af,wh,pl,mb,gr,tm,dt⟩:=f;dsimp only at hb ha hd;obtain ⟨C,hC⟩:=nm (zI0 ⟨ng,bf,af,wh,pl,mb,gr,tm,dt⟩);obtain ⟨MID,hM⟩:=nm ((if dt=[] then numC gr (minI wh 20).toNat (minI pl 20).toNat (minI mb 20).toNat (minI tm 20).toNat (decide (0<wrap64 (pl+mb))) else dt));obtain ⟨Q1,hQ1⟩:=nm (quoB bf);obtain ⟨Q2,hQ2⟩:=nm (quoB af);have HC:Hid (Q1++MID++Q2=C):=by show _=_;rw [<- hC,<- hM,<- hQ1,<- hQ2];rfl
 have HM:Hid ((if dt=[] then numC gr (minI wh 20).toNat (minI pl 20).toNat (minI mb 20).toNat (minI tm 20).toNat (decide (0<wrap64 (pl+mb))) else dt)=MID):=hM;have H1:Hid (quoB bf=Q1):=hQ1;have H2:Hid (quoB af=Q2):=hQ2;have l1:Q1.length<=202:=by have:=zC8 bf;rw [hQ1] at this;omega
 have l2:Q2.length<=202:=by have:=zC8 af;rw [hQ2] at this;omega
 have lm:MID.length<=300:=by
  rw [<- hM]
  split
  ·unfold numC;have m1:=zBI wh 20;have m2:=zBI pl 20;have m3:=zBI mb 20;have m4:=zBI tm 20;have r1:=zAJ [48] (minI wh 20).toNat rfl;have r2:=zAJ [48] (minI pl 20).toNat rfl;have r3:=zAJ [35] (minI mb 20).toNat rfl;have r4:=zAJ [37] (minI tm 20).toNat rfl;simp only [List.length_append];rw [r1,r4];have g:(if gr then ([35,44]:BL) else []).length<=2:=by split <;> simp
   have h:(if (decide (0<wrap64 (pl+mb))) then (46 :: (repF [48] (minI pl 20).toNat++repF [35] (minI mb 20).toNat):BL) else []).length<=41:=by
    split
    ·simp only [List.length_cons,List.length_append];rw [r2,r3];omega
    ·simp
   omega
  ·omega
 rw [hC];clear hC hM hQ1 hQ2;have V0:=zA2 w (KT.cells ⟨ng,bf,af,wh,pl,mb,gr,tm,dt⟩) 28;have X0:=x1 w (.cells (KT.cells ⟨ng,bf,af,wh,pl,mb,gr,tm,dt⟩).toArray 28);obtain ⟨B,hB⟩:=nm (w.heap.size);rw [hB] at V0;obtain ⟨w0,hw0⟩:=nm (w.alloc (.cells (KT.cells ⟨ng,bf,af,wh,pl,mb,gr,tm,dt⟩).toArray 28));rw [hw0] at V0 X0;have hw0:w.alloc (.cells #[.bool ng,sV bf,sV af,iQ wh,iQ pl,iQ mb,.bool gr,iQ tm,sV dt] 28)=w0:=hw0;have HV:Hid (∀ W,Ext w0 W->Vec W B [.bool ng,sV bf,sV af,iQ wh,iQ pl,iQ mb,.bool gr,iQ tm,sV dt]):=fun W e=>V0.l e;have a1:=(V0 1 _ rfl).1;clear V0;obtain ⟨e1,he1⟩:=nm ((bf == []));obtain ⟨e8,he8⟩:=nm ((dt == []));obtain ⟨e2,he2⟩:=nm ((af == []));go_enter Tryz.func23,Tryz.ntmps23;go_upto_if 6 with fail;clear hw0 hB;go_cut [3] (fun s wc=>s=sV Q1/\wc=w0)
 case first =>
  cases e1 with
  | true =>
   have hbf:bf=[]:=by simpa using he1
   subst hbf;have hq:Q1=[]:=by rw [<- H1.out];rfl
   subst hq;go_wp2_with fail;go_meet
   case rel=>exact ⟨rfl,rfl⟩
  | false =>
   have hbf:bf ≠ []:=by simpa using he1
   go_wp2_with fail;go_meet
   case rel=>exact ⟨by rw [<- H1.out,zJN hbf];simp only [zAE];rfl,rfl⟩
 case rest =>
  obtain ⟨rfl,hw⟩:=hcut;obtain rfl:=hw.symm;clear a1;have a8:=(HV.out w0 (xr _) 8 _ rfl).1;go_upto_if 15 with fail;clear a8;go_cut [3] (fun s wd=>s=sV (Q1++MID)/\Ext w0 wd)
  case first =>
   cases e8 with
   | true =>
    have hdt:dt=[]:=(by simpa using he8);subst hdt;have HM2:Hid ((if gr then [35,44] else [])++repF [48] (minI wh 20).toNat++(if (decide (0<wrap64 (pl+mb))) then 46 :: (repF [48] (minI pl 20).toNat++repF [35] (minI mb 20).toNat) else [])++repF [37] (minI tm 20).toNat=MID):=(by show _=_;rw [<- HM.out];rfl);have R1:=fun W=>repS [48] (minI wh 20) (by decide) (by have:=zBI wh 20;omega) W;have q2:minI pl 20<=1000:=(by have:=zBI pl 20;omega);have q3:minI mb 20<=1000:=(by have:=zBI mb 20;omega);have R4:=fun W=>repS [37] (minI tm 20) (by decide) (by have:=zBI tm 20;omega) W;have M1:=fun W=>minS wh 20 W;have M4:=fun W=>minS tm 20 W;have n1:(repF [48] (minI wh 20).toNat).length<=20:=(by rw [zAJ _ _ rfl];have:=zBI wh 20;omega);have n2:(repF [48] (minI pl 20).toNat).length<=20:=(by rw [zAJ _ _ rfl];have:=zBI pl 20;omega);have n3:(repF [35] (minI mb 20).toNat).length<=20:=(by rw [zAJ _ _ rfl];have:=zBI mb 20;omega);have n4:(repF [37] (minI tm 20).toNat).length<=20:=(by rw [zAJ _ _ rfl];have:=zBI tm 20;omega);obtain ⟨y1,hy1⟩:=nm (repF [48] (minI wh 20).toNat);obtain ⟨y4,hy4⟩:=nm (repF [37] (minI tm 20).toNat);simp only [hy1] at R1;simp only [hy4] at R4;rw [hy1] at n1 HM2;rw [hy4] at n4 HM2;clear hy1 hy4 HM;obtain ⟨z1,hz1⟩:=nm (minI wh 20);obtain ⟨z4,hz4⟩:=nm (minI tm 20);simp only [hz1] at R1 M1;simp only [hz4] at R4 M4;clear hz1 hz4;have a6:=(HV.out w0 (xr _) 6 _ rfl).1;obtain ⟨G,hG⟩:=nm ((if gr then ([35,44]:BL) else []));have HGr:Hid ((if gr then ([35,44]:BL) else [])=G):=hG;have lG:G.length<=2:=(by rw [<- hG];split <;> simp);rw [hG] at HM2;clear hG;go_upto_if 21 with fail;clear a6;go_cut [3] (fun s we=>s=sV (Q1++G)/\we=w0)
    case first =>
     cases gr
     ·have hg:G=[]:=HGr.out.symm;subst hg;go_wp2_with fail;go_meet
      case rel=>exact ⟨by rw [List.append_nil],rfl⟩
     ·have hg:G=[35,44]:=HGr.out.symm;subst hg;have hs:=szB Q1;go_wp2_with fail;go_meet
      case rel=>exact ⟨by simp only [zAE],rfl⟩
    case rest =>
     obtain ⟨rfl,hw⟩:=hcut;obtain rfl:=hw.symm;have a3:=(HV.out w0 (xr _) 3 _ rfl).1;have a4:=(HV.out w0 (xr _) 4 _ rfl).1;have a5:=(HV.out w0 (xr _) 5 _ rfl).1;have sA:=szB (Q1++G);rw [List.length_append] at sA;have sB:=szB y1;obtain ⟨FL,hFL⟩:=nm (decide (0<wrap64 (pl+mb)));have HFL:Hid (decide (0<wrap64 (pl+mb))=FL):=hFL;rw [hFL] at HM2;go_wp2_with fail;refine (M1 _).mono ?_;rintro e w1 ⟨rfl,h1⟩;rw [h1];clear h1;go_wp2_with fail;refine (R1 _).mono ?_;rintro e w1 ⟨rfl,h1⟩;rw [h1];clear h1;have X1:Hid (Value.string (⟨(Q1++G).toArray⟩++⟨y1.toArray⟩)=sV (Q1++G++y1)):=(by show _=_;rw [zAE]);go_upto_if 35 with fail;clear a3 a4 a5 sA sB;obtain ⟨P,hP⟩:=nm ((if FL then (46 :: (repF [48] (minI pl 20).toNat++repF [35] (minI mb 20).toNat):BL) else []));have HP:Hid ((if FL then (46 :: (repF [48] (minI pl 20).toNat++repF [35] (minI mb 20).toNat):BL) else [])=P):=hP;have lP:P.length<=41:=(by rw [<- hP];split <;> simp <;> omega);rw [hP] at HM2;clear hP;go_cut [3] (fun s we=>s=sV (Q1++G++y1++P)/\Ext w0 we)
     case first =>
      have a4:=(HV.out w0 (xr _) 4 _ rfl).1;have a5:=(HV.out w0 (xr _) 5 _ rfl).1;have sA:=szB (Q1++G);rw [List.length_append] at sA;have sB:=szB y1;have sC:=szB (repF [48] (minI pl 20).toNat);have sD:=szB (repF [35] (minI mb 20).toNat);cases FL
      ·have hp:P=[]:=HP.out.symm;subst hp;go_wp2_with fail;go_meet
       case rel=>exact ⟨by rw [X1.out,List.append_nil],xr _⟩
      ·have HP2:Hid (P=46 :: (repF [48] (minI pl 20).toNat++repF [35] (minI mb 20).toNat)):=HP.out.symm;go_wp2_with fail;go_quiet (first | (go_at_call 50;exact Calls.quiet_of_same (minS _ _ _)) | (go_at_call 49;exact Calls.quiet_of_same (repS _ _ (by decide) (by first | exact q2 | exact q3) _)));go_wp2_with fail;go_meet
       case rel=>exact ⟨by rw [HP2.out];simp only [zAE];simp,xdNk (xr _) _⟩
     case rest =>
      obtain ⟨rfl,E⟩:=hcut;obtain ⟨wd,hwd⟩:∃ x,x=wc:=⟨_,rfl⟩;subst hwd;have a7:=(HV.out wd E 7 _ rfl).1;have sA:=szB (Q1++G++y1++P);simp only [List.length_append] at sA;have sB:=szB y4;go_wp2_with fail;refine (M4 _).mono ?_;rintro e w1 ⟨rfl,h1⟩;rw [h1];clear h1;go_wp2_with fail;refine (R4 _).mono ?_;rintro e w1 ⟨rfl,h1⟩;rw [h1];clear h1;go_wp2_with fail;go_meet
      case rel=>exact ⟨by rw [zAE,<- HM2.out];simp,E⟩
   | false =>
    have hdt:dt ≠ []:=(by simpa using he8);have hm:MID=dt:=(by rw [<- HM.out,if_neg hdt]);subst hm;have a8:=(HV.out w0 (xr _) 8 _ rfl).1;have hs:=szB Q1;have hs2:=szB MID;go_wp2_with fail;go_meet
    case rel=>exact ⟨by simp only [zAE],xr _⟩
  case rest =>
   obtain ⟨rfl,E⟩:=hcut;obtain ⟨wd,hwd⟩:∃ x,x=wc:=⟨_,rfl⟩;subst hwd;have a2:=(HV.out wd E 2 _ rfl).1;have hs:=szB (Q1++MID);rw [List.length_append] at hs;go_upto_if 56 with fail;go_cut [3] (fun s we=>s=sV C/\we=wd)
   case first =>
    cases e2 with
    | true =>
     have hq:Q2=[]:=by
      have haf:af=[]:=(by simpa using he2);rw [<- H2.out,haf];rfl
     clear he2;subst hq;go_wp2_with fail;go_meet
     case rel=>exact ⟨by rw [<- HC.out,List.append_nil],rfl⟩
    | false =>
     have haf:af ≠ []:=(by simpa using he2);have hs3:=szB af;go_wp2_with fail;go_meet
     case rel=>exact ⟨by rw [<- HC.out,<- H2.out,zJN haf];simp only [zAE];rfl,rfl⟩
   case rest =>
    obtain ⟨rfl,hw⟩:=hcut;obtain rfl:=hw.symm;go_wp2_with fail;go_ret;exact ⟨rfl,xt X0 E⟩
theorem KT.eq_iff (e f:KT):e=f ↔ (e.ng=f.ng/\e.bf=f.bf/\e.af=f.af/\e.wh=f.wh/\e.pl=f.pl/\e.mb=f.mb/\e.gr=f.gr/\e.tm=f.tm/\e.dt=f.dt):=by
 constructor
 ·rintro rfl;simp
 ·rintro ⟨h1,h2,h3,h4,h5,h6,h7,h8,h9⟩;cases e;cases f
  simp_all
instance:DecidableEq KT:=fun e f=>decidable_of_iff _ (KT.eq_iff e f).symm
theorem zSZ (e f:KT) (W:World) :
  (binOp BinOp.neq 28 (.agg #[.bool e.ng,sV e.bf,sV e.af,iQ e.wh,iQ e.pl,iQ e.mb,.bool e.gr,iQ e.tm,sV e.dt]) (.agg #[.bool f.ng,sV f.bf,sV f.af,iQ f.wh,iQ f.pl,iQ f.mb,.bool f.gr,iQ f.tm,sV f.dt])).run Tryz.prog W=.ok (.bool (!decide (e=f))) W:=by
 by_cases h:e=f
 ·subst h;rw [decide_eq_true rfl]
  go_simp
 ·rw [decide_eq_false h];rw [KT.eq_iff] at h;obtain ⟨a1,a2,a3,a4,a5,a6,a7,a8,a9⟩:=e;obtain ⟨b1,b2,b3,b4,b5,b6,b7,b8,b9⟩:=f;dsimp only at h ⊢;have H:Hid (¬ (a1=b1/\a2=b2/\a3=b3/\a4=b4/\a5=b5/\a6=b6/\a7=b7/\a8=b8/\a9=b9)):=h;clear h
  go_simp
  intros
  have:=H.out
  simp_all
theorem zGN {l l':List KT} {k:Nat} {e f:KT} (h:l.take k=l'.take k) (he:l[k]?=some e) (hf:l'[k]?=some f) (hef:e=f):l.take (k+1)=l'.take (k+1):=by
 rw [List.take_add_one,List.take_add_one,h,he,hf,hef]
theorem equalF (v v':Value) (l l':List KT) (w:World) (h:zB0 w v l) (h':zB0 w v' l') (hl:l.length<=2000000) :
  Calls Tryz.prog 22 #[v,v'] w fun e w'=>e=.returned (.bool (decide (l=l')))/\Ext w w':=by
 obtain ⟨p,cap,rfl,hcap,hrow⟩:=h;obtain ⟨p',cap',rfl,hcap',hrow'⟩:=h';by_cases hne:l.length=l'.length
 ·obtain ⟨n,hn⟩:=nm (l.length);have hn':l'.length=n:=by rw [<- hne,hn]
  have HN:Hid (l.length=n):=hn;have HN':Hid (l'.length=n):=hn';rw [hn] at hcap hl hrow ⊢;rw [hn'] at hcap' hrow' ⊢;have HRow:Hid (0<n->∃ b o,p=some ⟨b,o,none⟩/\RowK w b o l):=hrow;have HRow':Hid (0<n->∃ b o,p'=some ⟨b,o,none⟩/\RowK w b o l'):=hrow';have HEq:Hid (l.take n=l'.take n->l=l'):=fun e=>by rw [List.take_of_length_le (by omega),List.take_of_length_le (by omega)] at e;exact e
  have HNe:Hid (∀ (k:Nat) (e f:KT),l[k]?=some e->l'[k]?=some f->e ≠ f->l ≠ l'):=fun k e f he hf hd q=>by rw [q] at he;rw [he] at hf;exact hd (Option.some.inj hf)
  obtain ⟨R,hR⟩:=nm (decide (l=l'));have HR:Hid (decide (l=l')=R):=hR;rw [hR];clear hn hn' hrow hrow' hne hR;go_enter Tryz.func22,Tryz.ntmps22;go_wp2_with fail;go_loopw [13] (fun i wr=>∃ k:Nat,k<=n/\i=.int .i64 k/\Hid (l.take k=l'.take k)/\Ext w wr) (fun i _=>n - (intOf i).toNat)
  case atStart=>exact ⟨0,by omega,rfl,by show _=_;rfl,xr _⟩
  case round =>
   obtain ⟨k,hk,rfl,HT,X⟩:=hrel;by_cases hlt:k<n
   ·obtain ⟨e,he⟩:∃ e,l[k]?=some e:=⟨_,List.getElem?_eq_getElem (by rw [HN.out];exact hlt)⟩;obtain ⟨f,hf⟩:∃ f,l'[k]?=some f:=⟨_,List.getElem?_eq_getElem (by rw [HN'.out];exact hlt)⟩;obtain ⟨b,o,rfl,hRw⟩:=HRow.out (by omega);obtain ⟨b',o',rfl,hRw'⟩:=HRow'.out (by omega);obtain ⟨a0,a1,a2,a3,a4,a5,a6,a7,a8⟩:=(hRw.l X).all he;obtain ⟨c0,c1,c2,c3,c4,c5,c6,c7,c8⟩:=(hRw'.l X).all hf;have KN:=fun W=>zSZ e f W;obtain ⟨d,hd⟩:=nm (decide (e=f));simp only [hd] at KN;have i2:(k:Int)<(n:Int):=(by omega);have i1:(0:Int)<=(k:Int):=(by omega);clear hRw hRw';cases d
    ·have HF:Hid (R=false):=(by show _=_;rw [<- HR.out,decide_eq_false (HNe.out k e f he hf (of_decide_eq_false hd))]);clear he hf hd HT;go_wp2_with fail;go_quiet (fail);go_wp2_with fail;go_ret;exact ⟨zA5 (by rw [HF.out]),xdNk X _⟩
    ·have HT2:Hid (l.take (k+1)=l'.take (k+1)):=zGN HT.out he hf (of_decide_eq_true hd);clear he hf hd HT;go_wp2_with fail;go_quiet (fail);go_wp2_with fail;go_roundw
     case rel=>exact ⟨k+1,by omega,by go_num,HT2,xdNk X _⟩
     case measure=>simp [intOf];omega
   ·obtain rfl:k=n:=(by omega);have HF:Hid (R=true):=(by show _=_;rw [<- HR.out,decide_eq_true (HEq.out HT.out)]);clear HT;go_wp2_with fail;go_ret;exact ⟨zA5 (by rw [HF.out]),X⟩
 ·have i1:(l.length:Int) ≠ (l'.length:Int):=by omega
  rw [decide_eq_false (fun e=>hne (by rw [e]))];clear hrow hrow';go_enter Tryz.func22,Tryz.ntmps22;go_wp2_with fail;go_ret;exact ⟨rfl,xr _⟩
def zDK (f:KT):Nat:=f.bf.length+f.af.length+f.dt.length
def jk (l:List KT):Nat->BL
 | 0=>[]
 | k+1=>(if 0<k then jk l k++[59] else jk l k)++zI0 (l.getD k zBM)
def zQR (l:List KT):BL:=if l.length<1\/3<l.length then [] else if l.any (fun f=>decide (200<zDK f)) then [] else if zAZ (jk l l.length)=l then jk l l.length else []
theorem zTT (f:KT) (h:zDK f<=200):(zI0 f).length<=300:=by
 unfold zDK at h;unfold zI0;have q1:=zC8 f.bf;have q2:=zC8 f.af;simp only [List.length_append]
 split
 ·unfold numC;have m1:=zBI f.wh 20;have m2:=zBI f.pl 20;have m3:=zBI f.mb 20;have m4:=zBI f.tm 20;have r1:=zAJ [48] (minI f.wh 20).toNat rfl;have r2:=zAJ [48] (minI f.pl 20).toNat rfl;have r3:=zAJ [35] (minI f.mb 20).toNat rfl;have r4:=zAJ [37] (minI f.tm 20).toNat rfl;simp only [List.length_append];rw [r1,r4];have g:(if f.gr then ([35,44]:BL) else []).length<=2:=by split <;> simp
  have h:(if (decide (0<wrap64 (f.pl+f.mb))) then (46 :: (repF [48] (minI f.pl 20).toNat++repF [35] (minI f.mb 20).toNat):BL) else []).length<=41:=by
   split
   ·simp only [List.length_cons,List.length_append];rw [r2,r3];omega
   ·simp
  omega
 ·omega
theorem zP3:∀ (k:Nat) (l:BL) (acc:List KT),(zBV k l acc).length<=acc.length+k:=by
 intro k
 induction k with
 | zero=>intro l acc;simp [zBV]
 | succ k ih =>
  intro l acc;simp only [zBV];cases secS l with
  | none=>simp
  | some x =>
   dsimp only
   split
   ·simp
   ·split
    ·rw [List.length_append];simp
    ·split
     ·have:=ih (x.2.drop 1) (acc++[x.1]);rw [List.length_append,List.length_singleton] at this;omega
     ·simp
theorem zG8 (l:BL):(zAZ l).length<=4:=by
 unfold zAZ
 split
 ·simp
 ·have:=zP3 4 l [];simpa using this
theorem toldSS (v:Value) (l:List KT) (w:World) (h:zB0 w v l) (hl:l.length<=2000000) (ht:∀ f ∈ l,f.bf.length<=2000000/\f.af.length<=2000000/\f.dt.length<=2000000) :
  Calls Tryz.prog 7 #[v] w fun e w'=>e=.returned (sV (zQR l))/\Ext w w':=by
 obtain ⟨p,cap,rfl,hcap,hrow⟩:=h;obtain ⟨n,hn⟩:=nm (l.length);have HN:Hid (l.length=n):=hn;obtain ⟨R,hR⟩:=nm (zQR l);have HR:Hid ((if n<1\/3<n then [] else if l.any (fun f=>decide (200<zDK f)) then [] else if zAZ (jk l n)=l then jk l n else [])=R):=by show _=_;rw [<- hR,<- hn];rfl
 rw [hR];rw [hn] at hcap hl hrow ⊢;have HRow:Hid (0<n->∃ b o,p=some ⟨b,o,none⟩/\RowK w b o l):=hrow;have HTx:Hid (∀ f ∈ l,f.bf.length<=2000000/\f.af.length<=2000000/\f.dt.length<=2000000):=ht;clear hn hR hrow ht;by_cases hlen:n<1\/3<n
 ·have HE:Hid (R=[]):=by show _=_;rw [<- HR.out,if_pos hlen]
  clear HR;by_cases h1:n<1
  ·have i1:(n:Int)<1:=by omega
   clear hlen;go_enter Tryz.func7,Tryz.ntmps7;go_wp2_with fail;go_ret;exact ⟨by rw [HE.out] <;> rfl,xr _⟩
  ·have i1:1<=(n:Int):=by omega
   have i2:3<(n:Int):=by omega
   clear hlen;go_enter Tryz.func7,Tryz.ntmps7;go_wp2_with fail;go_ret;exact ⟨by rw [HE.out] <;> rfl,xr _⟩
 ·have i1:1<=(n:Int):=by omega
  have i2:(n:Int)<=3:=by omega
  have HR:Hid ((if l.any (fun f=>decide (200<zDK f)) then [] else if zAZ (jk l n)=l then jk l n else [])=R):=by show _=_;rw [<- HR.out,if_neg hlen]
  have hn3:n<=3:=by omega
  clear hlen;go_enter Tryz.func7,Tryz.ntmps7;go_wp2_with fail;go_loopw [3,18] (fun s i wr=>∃ k:Nat,k<=n/\i=.int .i64 k/\s=sV (jk l k)/\Hid ((jk l k).length<=k * 400)/\Hid (∀ f ∈ l.take k,zDK f<=200)/\Ext w wr) (fun _ i _=>n - (intOf i).toNat)
  case atStart=>exact ⟨0,by omega,rfl,rfl,by show _<=_;simp [jk],fun f hf=>by simp at hf,xr _⟩
  case round =>
   obtain ⟨k,hk,rfl,rfl,HL,HW,X⟩:=hrel;by_cases hlt:k<n
   ·obtain ⟨f,hf⟩:∃ f,l[k]?=some f:=⟨_,List.getElem?_eq_getElem (by rw [HN.out];exact hlt)⟩;have hmem:f ∈ l:=List.mem_of_getElem? hf;obtain ⟨b,o,rfl,hRw⟩:=HRow.out (by omega);obtain ⟨a0,a1,a2,a3,a4,a5,a6,a7,a8⟩:=(hRw.l X).all hf;obtain ⟨t1,t2,t3⟩:=HTx.out f hmem;have s1:=szB f.bf;have s2:=szB f.af;have s3:=szB f.dt;have j2:(k:Int)<(n:Int):=(by omega);have j1:(0:Int)<=(k:Int):=(by omega);by_cases hw:200<zDK f
    ·have HE:Hid (R=[]):=by
      show _=_;rw [<- HR.out,if_pos];rw [List.any_eq_true];exact ⟨f,hmem,decide_eq_true hw⟩
     have j3:200<(f.bf.length:Int)+(f.af.length:Int)+(f.dt.length:Int):=(by unfold zDK at hw;omega);clear HR HW hf hmem hRw hw;go_wp2_with fail;go_ret;exact ⟨by rw [HE.out] <;> rfl,xa X _⟩
    ·have j3:(f.bf.length:Int)+(f.af.length:Int)+(f.dt.length:Int)<=200:=(by unfold zDK at hw;omega);have hwk:zDK f<=200:=(by omega);have CC:=fun W=>codeSS f W (by unfold zDK at hwk;omega) (by unfold zDK at hwk;omega) (by unfold zDK at hwk;omega);have hcl:=zTT f hwk;have hgd:l.getD k zBM=f:=(by rw [List.getD_eq_getElem?_getD,hf];rfl);have HW2:Hid (∀ f ∈ l.take (k+1),zDK f<=200):=fun g hg=>by
      rw [List.take_add_one,hf] at hg
      rcases List.mem_append.1 hg with hg | hg
      ·exact HW.out g hg
      ·have:g=f:=(by simpa using hg);rw [this];exact hwk
     have hj:jk l (k+1)=(if 0<k then jk l k++[59] else jk l k)++zI0 f:=(by rw [<- hgd];rfl);have HL2:Hid ((jk l (k+1)).length<=(k+1) * 400):=by
      show _<=_;have:=HL.out;rw [hj,List.length_append]
      split
      ·rw [List.length_append];simp;omega
      ·omega
     have hLk:(jk l k).length<=1200:=(by have:=HL.out;omega);have HJ:Hid (jk l (k+1)=(if 0<k then jk l k++[59] else jk l k)++zI0 f):=hj;obtain ⟨J,hJ⟩:=nm (jk l k);obtain ⟨c,hc⟩:=nm (zI0 f);rw [hJ] at HJ hLk ⊢;rw [hc] at HJ hcl;simp only [hc] at CC;have z1:=szB J;have z2:=szB c;have E1:=x1 wr (.cells f.cells.toArray 28);clear HL HW hf hmem hRw hw hwk hgd hj hJ hc HR;by_cases hk0:0<k
     ·have i5:0<(k:Int):=(by omega);have HJ2:Hid (jk l (k+1)=J++[59]++c):=(by show _=_;rw [HJ.out,if_pos hk0]);have z3:=szB (J++[59]);rw [List.length_append] at z3;have A1:Hid ((⟨J.toArray⟩++⟨#[59]⟩:ByteArray)=⟨(J++[59]).toArray⟩):=zAE _ _;go_wp2_with fail;refine (CC _).mono ?_;rintro e w2 ⟨rfl,e2⟩;go_wp2_with fail;go_roundw
      case rel=>exact ⟨k+1,by omega,by go_num,by rw [HJ2.out];simp only [zAE],HL2,HW2,xt (xt X E1) e2⟩
      case measure=>simp [intOf];omega
     ·have i5:(k:Int)<=0:=(by omega);have HJ2:Hid (jk l (k+1)=J++c):=(by show _=_;rw [HJ.out,if_neg hk0]);go_wp2_with fail;refine (CC _).mono ?_;rintro e w2 ⟨rfl,e2⟩;go_wp2_with fail;go_roundw
      case rel=>exact ⟨k+1,by omega,by go_num,by rw [HJ2.out];simp only [zAE],HL2,HW2,xt (xt X E1) e2⟩
      case measure=>simp [intOf];omega
   ·obtain rfl:k=n:=(by omega);have HQ:Hid ((if zAZ (jk l k)=l then jk l k else [])=R):=by
     show _=_;rw [<- HR.out];have:l.any (fun f=>decide (200<zDK f))=false:=by
      rw [List.any_eq_false];intro f hf;have:=HW.out f (by rw [List.take_of_length_le (by rw [HN.out];exact Nat.le_refl _)];exact hf);simp;omega
     rw [this];rfl
    have CR:=readS (jk l k) wr (by have:=HL.out;omega);obtain ⟨J,hJ⟩:=nm (jk l k);rw [hJ] at HQ CR ⊢;clear HL HW hJ HR;go_wp2_with fail;refine CR.mono ?_;rintro e w2 ⟨⟨v2,rfl,V2⟩,e2⟩;have X2:=xt X e2;obtain ⟨p2,cp2,hrow2⟩:=zDY V2;obtain ⟨rfl,hcap2,hrw2⟩:=hrow2;obtain ⟨D,hD⟩:=nm (zAZ J);rw [hD] at HQ V2 hcap2 hrw2 ⊢;have hdl:D.length<=2000000:=by
     have:=zG8 J;rw [hD] at this;omega
    obtain ⟨m,hm⟩:=nm (D.length);have HMl:Hid (D.length=m):=hm;rw [hm] at hcap2 hrw2 hdl ⊢;have HRw2:Hid (0<m->∃ b o,p2=some ⟨b,o,none⟩/\RowK w2 b o D):=hrw2;clear hD hm hrw2 V2 CR e2;by_cases hmk:m=k
    ·subst hmk;have HEq:Hid (D.take m=l.take m->D=l):=fun e=>(by rw [List.take_of_length_le (by rw [HMl.out];exact Nat.le_refl _),List.take_of_length_le (by rw [HN.out];exact Nat.le_refl _)] at e;exact e);have HNe:Hid (∀ (k:Nat) (e f:KT),D[k]?=some e->l[k]?=some f->e ≠ f->D ≠ l):=fun k e f he hf hd q=>(by rw [q] at he;rw [he] at hf;exact hd (Option.some.inj hf));go_wp2_with fail;go_loopw [53] (fun i wx=>∃ j:Nat,j<=m/\i=.int .i64 j/\Hid (D.take j=l.take j)/\Ext w2 wx) (fun i _=>m - (intOf i).toNat)
     case atStart=>exact ⟨0,by omega,rfl,by show _=_;rfl,xr _⟩
     case round =>
      obtain ⟨j,hj,rfl,HT,Y⟩:=hrel;by_cases hlt2:j<m
      ·obtain ⟨e,he⟩:∃ e,D[j]?=some e:=⟨_,List.getElem?_eq_getElem (by rw [HMl.out];exact hlt2)⟩;obtain ⟨f,hf⟩:∃ f,l[j]?=some f:=⟨_,List.getElem?_eq_getElem (by rw [HN.out];exact hlt2)⟩;obtain ⟨b,o,rfl,hRw⟩:=HRow.out (by omega);obtain ⟨b',o',rfl,hRw'⟩:=HRw2.out (by omega);obtain ⟨c0,c1,c2,c3,c4,c5,c6,c7,c8⟩:=(hRw.l (xt X2 Y)).all hf;obtain ⟨a0,a1,a2,a3,a4,a5,a6,a7,a8⟩:=(hRw'.l Y).all he;have KN:=fun W=>zSZ e f W;obtain ⟨d,hd⟩:=nm (decide (e=f));simp only [hd] at KN;have j2:(j:Int)<(m:Int):=(by omega);have j1:(0:Int)<=(j:Int):=(by omega);clear hRw hRw';cases d
       ·have HE:Hid (R=[]):=(by show _=_;rw [<- HQ.out,if_neg (HNe.out j e f he hf (of_decide_eq_false hd))]);clear he hf hd HT HQ;go_wp2_with fail;go_quiet (fail);go_wp2_with fail;go_ret;exact ⟨by rw [HE.out] <;> rfl,xdNk (xt X2 Y) _⟩
       ·have HT2:Hid (D.take (j+1)=l.take (j+1)):=zGN HT.out he hf (of_decide_eq_true hd);clear he hf hd HT HQ;go_wp2_with fail;go_quiet (fail);go_wp2_with fail;go_roundw
        case rel=>exact ⟨j+1,by omega,by go_num,HT2,xdNk Y _⟩
        case measure=>simp [intOf];omega
      ·obtain rfl:j=m:=(by omega);have HE:Hid (R=J):=(by show _=_;rw [<- HQ.out,if_pos (HEq.out HT.out)]);clear HT HQ;go_wp2_with fail;go_ret;exact ⟨by rw [HE.out] <;> rfl,xt X2 Y⟩
    ·have HE:Hid (R=[]):=(by show _=_;rw [<- HQ.out,if_neg (fun e=>hmk (by rw [<- HMl.out,e,HN.out]))]);have i9:(m:Int) ≠ (k:Int):=(by omega);clear HQ;go_wp2_with fail;go_ret;exact ⟨by rw [HE.out] <;> rfl,X2⟩
end Go.Proofs.YtjlojlgdkfpcdaaGreatDoor

