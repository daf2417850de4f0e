/-
  ReP, ReG, ReL in one.
-/
import Derived.Test.YtiaakhogigddbaaGreatDoorReM
import Derived.Test.YtiaakhogigddbaaGreatDoorMg25
import Derived.Test.YtiaakhogigddbaaGreatDoorMg23
namespace Go.Proofs.YtiaakhogigddbaaGreatDoor
open Go.RowKit
def dgs (D:List UInt8):List Int:=D.reverse.map fun c=>(c.toNat:Int) - 48
theorem dgs_length (D:List UInt8):(dgs D).length=D.length:=by simp [dgs]
theorem dgs_ten {D:List UInt8} (h:D.all isD=true):D10 (dgs D):=by
 intro x hx;obtain ⟨c,hc,rfl⟩:=List.mem_map.1 hx;have:=isD_bd (List.all_eq_true.1 h c (List.mem_reverse.1 hc));constructor <;> omega
theorem dgs_plain {D:List UInt8} (h:D.all isD=true):Plain (bs D) (dgs D):=by
 unfold Plain dgs;rw [← List.map_reverse,List.reverse_reverse,List.map_map];have e:D.map (chr ∘ fun c=>(c.toNat:Int) - 48)=D:=by
  rw [List.map_congr_left (g:=id) (fun c hc=>?_),List.map_id];have:=isD_bd (List.all_eq_true.1 h c hc);simp only [Function.comp,chr,id];apply UInt8.toNat_inj.1;rw [show ((48+((c.toNat:Int) - 48)).toNat)=c.toNat by omega];simp
 rw [e];rfl
theorem dgs_dv {D:List UInt8} (h:D.all isD=true):dv (dgs D)=(dvN D:Int):=by
 unfold dgs;have:∀ r:List UInt8,r.all isD=true→dv (r.map fun c=>(c.toNat:Int) - 48)=(dvN r.reverse:Int):=by
  intro r
  induction r with
  | nil=>intro;rfl
  | cons c r ih =>
   intro h;rw [List.all_cons,Bool.and_eq_true] at h;have cb:=isD_bd h.1;rw [List.map_cons,List.reverse_cons,dvN_snoc];simp only [dv];rw [ih h.2];omega
 have e:=this D.reverse (by rw [List.all_eq_true] at h ⊢;exact fun c hc=>h c (List.mem_reverse.1 hc));rw [List.reverse_reverse] at e;exact e
theorem digitS (z:Int) (w:World):Calls Tryz.prog 118 #[.int .u8 z] w fun e w'=>e=.returned (.bool (decide (48≤z∧z≤57)))∧w'=w:=by
 go_enter Tryz.func118,Tryz.ntmps118
 go_wp2
 all_goals go_ret
 all_goals refine ⟨ret_bool ?_,rfl⟩
 all_goals rw [Bool.eq_iff_iff]
 all_goals first | (simp only [decide_eq_true_eq];omega) | (simp;omega)
def OwnB (w:World) (B:Nat) (v:Value) (xs:List UInt8):Prop:=w.ownsRow B 5 1 v xs.length (encD xs)
theorem OwnB.nil (w:World) (B:Nat):OwnB w B (.slice none 0 0) []:=⟨rfl,.inl ⟨rfl,rfl⟩⟩
theorem OwnB.block {w:World} {B:Nat} {v:Value} {xs:List UInt8} (h:OwnB w B v xs):∀ k,v.ownBlock=some k→B≤k:=by
 intro k hk
 rcases h.2 with ⟨rfl,_⟩ | ⟨g,cap,cur,rfl,hg,_⟩
 ·cases hk
 ·cases hk;exact hg
theorem encD_app (a b:List UInt8):encD (a++b)=encD a++encD b:=by simp [encD]
theorem OwnB.text {w:World} {B:Nat} {v:Value} {D:List UInt8} (h:OwnB w B v D) (h0:0<D.length):(convert 89 9 v).run Tryz.prog w=.ok (.string (bs D)) w:=by
 have h2:=h;obtain ⟨_,⟨rfl,e⟩ | ⟨g,cap,cur,rfl,_⟩⟩:=h
 ·omega
 ·exact run_convert_bytes_back (P:=Tryz.prog) w 89 9 5 ⟨g,0,none⟩ cap D Tryz.underlying89 Tryz.underlying5 Tryz.underlying9 (fun j hj=>h2.cells (g:=g) rfl j _ (by simp [encD,hj]))
theorem dvN_big {D:List UInt8} (h:D.all isD=true) (hl:D.length≤200):(dvN D:Int)<1000000000 ^ 23:=by
 have h1:=dvN_lt D.length D rfl h;have h2:10 ^ D.length≤10 ^ 207:=Nat.pow_le_pow_right (by decide) (by omega);have h3:(1000000000:Int) ^ 23=((10 ^ 207:Nat):Int):=by decide
 rw [h3];exact Int.ofNat_lt.2 (Nat.lt_of_lt_of_le h1 h2)
theorem byte_eq (c:UInt8) (d:UInt8):(((c.toNat:Int) == (d.toNat:Int)))=decide (c=d):=by
 rw [Bool.eq_iff_iff,beq_iff_eq,decide_eq_true_eq];constructor
 ·intro h;exact UInt8.toNat_inj.1 (by omega)
 ·rintro rfl;rfl
theorem head_at (l:List UInt8) (p:Nat) (c:UInt8):Lib.hasPrefix (l.drop p) [c]=(decide (p<l.length) && decide (l.getD p 0=c)):=by
 by_cases h:p<l.length
 ·rw [List.drop_eq_getElem_cons h,decide_eq_true h,Bool.true_and,List.getD_eq_getElem?_getD,List.getElem?_eq_getElem h];show (List.isPrefixOf [c] (l[p] :: _))=_;simp only [List.isPrefixOf,Bool.and_true,Option.getD_some];rw [Bool.eq_iff_iff,beq_iff_eq,decide_eq_true_eq];exact ⟨fun h=>h.symm,fun h=>h.symm⟩
 ·rw [List.drop_eq_nil_of_le (by omega),decide_eq_false h,Bool.false_and];rfl
theorem trim_at (l:List UInt8) (p:Nat) (c:UInt8) (h:Lib.hasPrefix (l.drop p) [c]=true):Lib.trimPrefix (l.drop p) [c]=l.drop (p+1):=by
 unfold Lib.trimPrefix;rw [h,if_pos rfl,List.drop_drop];rfl
theorem exp_at (l:List UInt8) (p:Nat) (h:p<l.length):expR (l.drop p)=if l.getD p 0=69∨l.getD p 0=101 then (if Lib.hasPrefix (l.drop (p+1)) [45]=true then expT true (Lib.trimPrefix (l.drop (p+1)) [45]) else expT false (Lib.trimPrefix (l.drop (p+1)) [43])) else none:=by
 rw [List.drop_eq_getElem_cons h,List.getD_eq_getElem?_getD,List.getElem?_eq_getElem h];rfl
theorem takeWhile_ge (P:UInt8→Bool):∀ (k:Nat) (l:List UInt8),k≤l.length→(l.take k).all P=true→k≤(l.takeWhile P).length:=by
 intro k
 induction k with
 | zero=>intros;omega
 | succ k ih =>
  intro l hl ha;cases l with
  | nil=>simp at hl
  | cons c r =>
   rw [List.take_succ_cons,List.all_cons,Bool.and_eq_true] at ha;rw [List.takeWhile_cons_of_pos ha.1,List.length_cons];have:=ih r (by simp at hl;omega) ha.2;omega
set_option maxRecDepth 8000 in
set_option maxHeartbeats 8000000 in
theorem readS (l:List UInt8) (w:World) (hl:l.length≤1048576) :
 Calls Tryz.prog 87 #[.string (bs l)] w fun r w'=>r=.returned (resV (readR l))∧Ext w w':=by
 obtain ⟨i0,hi,hz0,hz1,hz2⟩:=info_parts info8;obtain ⟨R,hR⟩:∃ R,readR l=R:=⟨_,rfl⟩;rw [hR];show Calls _ _ _ _ fun r w'=>r=.returned (.agg #[.bool R.ok,.bool R.neg,.int .i64 R.d,.int .i64 R.e])∧Ext w w';have X0:=x1 w (.cells #[.bool false,.bool false,.int .i64 0,.int .i64 0] 103);have Br:=Box4.made w (.bool false) (.bool false) (.int .i64 0) (.int .i64 0) 103;have sz:(bs l).size=l.length:=rfl;obtain ⟨n,hn⟩:∃ n,l.length=n:=⟨_,rfl⟩;obtain ⟨s,hs⟩:∃ s,bs l=s:=⟨_,rfl⟩;rw [hn] at sz hl;rw [hs] at sz;rw [hs];have HN:Hid (l.length=n):=hn;have HS:Hid (bs l=s):=hs;have HR:Hid (readR l=R):=hR;have AT:Hid (∀ (p:Nat) (hp:p<s.size),((s[p]'hp).toNat:Int)=((l.getD p 0).toNat:Int)):=fun p hp=>by
  subst hs;rw [bs_at l hp]
 clear hn hs hR;by_cases hlen:(100:Int)<(n:Int)
 ·have HZ:Hid (badR=R):=by
   show _=_;rw [← HR.out];unfold readR;rw [if_pos (by rw [HN.out];omega)]
  obtain ⟨⟨m0,m1,m2,m3⟩,m4,m5,m6,m7⟩:=id Br;clear HR AT hi hz0 hz1 hz2;go_enter Tryz.func87,Tryz.ntmps87;go_wp2_with fail;exact bodyPost_ret (v:=.agg #[.bool false,.bool false,.int .i64 0,.int .i64 0]) (by simp [results,Tryz.results87,go_sem]) rfl ⟨by rw [← HZ.out];rfl,by first | exact xset (xset (xset (xset X0 (by simp only;omega) _) (by simp only;omega) _) (by simp only;omega) _) (by simp only;omega) _ | exact x1 _ _⟩
 have hlen':decide ((100:Int)<(n:Int))=false:=decide_eq_false hlen;have n100:(n:Int)≤100:=by omega
 obtain ⟨neg,hneg⟩:∃ b,Lib.hasPrefix l [45]=b:=⟨_,rfl⟩;obtain ⟨l1,hl1⟩:∃ m,Lib.trimPrefix l [45]=m:=⟨_,rfl⟩;have HM:Hid (mantR neg l1=R):=by
  show _=_;rw [← HR.out];unfold readR;rw [if_neg (by rw [HN.out];omega),hneg,hl1]
 obtain ⟨a,ha⟩:∃ a:Nat,a=(if neg=true then 1 else 0)∧l1=l.drop a∧a≤n:=by
  cases neg
  ·refine ⟨0,rfl,?_,by omega⟩;rw [← hl1];unfold Lib.trimPrefix;rw [hneg];rfl
  ·refine ⟨1,rfl,?_,?_⟩
   ·rw [← hl1];unfold Lib.trimPrefix;rw [hneg];rfl
   ·cases l with
    | nil=>cases hneg
    | cons c r=>have:=HN.out;simp at this;omega
 clear HR hl1 hlen;go_enter Tryz.func87,Tryz.ntmps87;go_upto_region 1 with fail;obtain ⟨w0,hw0⟩:∃ u,w.alloc (.cells #[.bool false,.bool false,.int .i64 0,.int .i64 0] 103)=u:=⟨_,rfl⟩;rw [hw0] at X0 Br ⊢;clear hw0;go_upto_region 4 with fail;go_cut [4] (fun v wc=>v=.bool neg∧wc=w0)
 case first=>as_aux_lemma =>
  cases l with
  | nil =>
   have n0:n=0:=HN.out.symm;subst n0;have hneg':neg=false:=by rw [← hneg];rfl
   subst hneg';clear hi hz0 hz1 hz2 AT;go_wp2_with fail;go_meet
   case rel=>exact ⟨rfl,rfl⟩
  | cons c r =>
   have n0:(0:Int)<(n:Int):=by have:=HN.out;simp at this;omega
   have h0:0<s.size:=by omega
   have hb:=AT.out 0 h0;obtain ⟨z,hz⟩:∃ z:Int,(((c :: r).getD 0 0).toNat:Int)=z:=⟨_,rfl⟩;rw [hz] at hb;have hneg':neg=(z == 45):=by
    rw [← hneg,← hz];show (List.isPrefixOf [45] (c :: r))=((c.toNat:Int) == 45);simp [List.isPrefixOf];rw [Bool.eq_iff_iff,beq_iff_eq,beq_iff_eq];constructor
    ·rintro rfl;rfl
    ·intro h;exact (UInt8.toNat_inj.1 (by show c.toNat=45;omega)).symm
   have HG:Hid (neg=(z == 45)):=hneg';clear hi hz0 hz1 hz2 AT hneg hneg' hz;go_wp2_with fail;go_meet
   case rel=>exact ⟨by rw [HG.out],rfl⟩
 case rest =>
  obtain ⟨rfl,hwc⟩:=hcut;rw [hwc];clear hwc;obtain ⟨ha0,ha1,ha2⟩:=ha;go_upto_if 25 with fail;go_cut [3] (fun v wc=>v=.int .i64 a∧wc=w0)
  case first=>as_aux_lemma =>
   cases neg
   ·have a0:a=0:=ha0;subst a0;clear hi hz0 hz1 hz2 AT;go_wp2_with fail;go_meet
    case rel=>exact ⟨rfl,rfl⟩
   ·have a0:a=1:=ha0;subst a0;clear hi hz0 hz1 hz2 AT;go_wp2_with fail;go_meet
    case rel=>exact ⟨rfl,rfl⟩
  case rest =>
   obtain ⟨rfl,hwc⟩:=hcut;rw [hwc];clear hwc;have ds0:=all_take l1 isD;obtain ⟨ds,hds⟩:∃ m,l1.takeWhile isD=m:=⟨_,rfl⟩;obtain ⟨l2,hl2⟩:∃ m,l1.dropWhile isD=m:=⟨_,rfl⟩;have HD:Hid (l1.takeWhile isD=ds∧l1.dropWhile isD=l2∧l1=l.drop a):=⟨hds,hl2,ha1⟩;have w0s:w.heap.size<w0.heap.size:=World.block_lt_of_cell? _ _ Br.1.1;have BrW:Hid (Box4 w0 w.heap.size (.bool false) (.bool false) (.int .i64 0) (.int .i64 0)):=Br;obtain ⟨B,hB⟩:∃ B,w0.heap.size=B:=⟨_,rfl⟩;clear hds hl2 ha0 ha1 hneg;go_upto_block 0 with fail;go_cut [3,5] (fun i d wc=>i=.int .i64 ((a+ds.length:Nat):Int)∧OwnB wc B d ds∧Ext w0 wc)
   case first=>as_aux_lemma =>
    go_wp2_with fail;go_loopw [3,5] (fun i d wr=>∃ k:Nat,i=.int .i64 ((a+k:Nat):Int)∧a+k≤n∧Hid ((l1.take k).all isD=true∧k≤l1.length)∧OwnB wr B d (l1.take k)∧Ext w0 wr) (fun i _ _=>n+1 - (intOf i).toNat)
    case atStart=>exact ⟨0,rfl,ha2,⟨by simp,Nat.zero_le _⟩,OwnB.nil _ _,xr _⟩
    case round =>
     obtain ⟨k,rfl,hk,HK,HO0,XR⟩:=hrel;have HO:Hid (OwnB wr B u5 (l1.take k)):=HO0;have HU:=HO0.block;clear HO0;obtain ⟨p,hp⟩:∃ p,a+k=p:=⟨_,rfl⟩;rw [hp] at hk;rw [hp];by_cases hlt:p<n
     ·have hps:p<s.size:=(by omega);have hb:=AT.out p hps;have hpn:(p:Int)<(n:Int):=(by omega);obtain ⟨c,hc⟩:∃ c,l.getD p 0=c:=⟨_,rfl⟩;rw [hc] at hb;obtain ⟨z,hz⟩:∃ z:Int,(c.toNat:Int)=z:=⟨_,rfl⟩;rw [hz] at hb;have HC:Hid (l1.getD k 0=c∧k<l1.length):=by
       obtain ⟨_,_,e⟩:=HD.out;have e2:l1.length=n - a:=(by rw [e,List.length_drop,HN.out]);refine ⟨?_,by omega⟩;rw [e,List.getD_eq_getElem?_getD,List.getElem?_drop,hp,← List.getD_eq_getElem?_getD,hc]
      have HZ:Hid (isD c=decide (48≤z∧z≤57)):=by
       show _=_;unfold isD;rw [decide_eq_decide];omega
      have DG:=fun w=>digitS z w;cases hdg:decide (48≤z∧z≤57)
      ·rw [hdg] at DG;have hr:=takeWhile_atD isD l1 k HK.out.1 HK.out.2 (.inr (by rw [HC.out.1,HZ.out];exact hdg));have HF:Hid (ds=l1.take k):=by
        show _=_;rw [← HD.out.1,hr.1]
       have HP:Hid (a+ds.length=p):=by
        show _=_;rw [HF.out,List.length_take,Nat.min_eq_left HK.out.2];exact hp
       clear hr HK HC HZ hz hc hdg hi hz0 hz1 hz2 AT hp;go_wp2_with fail;refine (DG _).mono ?_;rintro rr w1 ⟨rfl,rfl⟩;go_wp2_with fail;go_meet
       case rel=>exact ⟨by rw [HP.out],by rw [HF.out];exact HO.out,XR⟩
      ·rw [hdg] at DG;have z2:=of_decide_eq_true hdg;have HT:Hid (l1.take (k+1)=l1.take k++[c]):=by
        show _=_;rw [take_atD HC.out.2,HC.out.1]
       have HK2:Hid ((l1.take (k+1)).all isD=true∧k+1≤l1.length):=by
        refine ⟨?_,HC.out.2⟩;rw [HT.out,List.all_append,HK.out.1];simp only [List.all_cons,List.all_nil,Bool.and_true,Bool.true_and];rw [HZ.out];exact hdg
       have HL:Hid ((l1.take k).length=k):=(by show _=_;rw [List.length_take,Nat.min_eq_left HK.out.2]);have hBs:B≤wr.heap.size:=(by have:=XR.size;omega);have HCZ:Hid ((c.toNat:Int)=z):=hz;clear HK HZ HC hz hc hdg AT;go_wp2_with fail;refine (DG _).mono ?_;rintro rr w1 ⟨rfl,rfl⟩;have xl:(l1.take k).length≤200:=(by have:=HL.out;omega);go_wp2_with (at_builtin;refine wpList_append_own _ rfl _ _ 89 rfl B 5 i0 (.int .u8 0) 1 1 Tryz.underlying89 hi hz0 hz1 hz2 rfl (by decide) _ _ _ rfl (HO.out.alloc _) ⟨w1.heap.size,0,none⟩ 1 1 _ rfl rfl (cell_one_new _ _ _) (by intro u hu;simp at hu;subst hu;rfl) (by unfold maxLen;omega) (by omega) (by simp;omega) ?_;intro v5 w5 hown5 hgrow5 hnil5);go_roundw
       case rel =>
        refine ⟨k+1,by rw [← hp];rfl,by omega,HK2,?_,(xa XR _).grown hgrow5 (by simp;omega) (fun k hk=>by rw [hB];exact HU k hk)⟩;unfold OwnB;rw [HT.out,encD_app,List.length_append];have:=hown5;simp only [List.length_singleton] at this ⊢;rw [show encD [c]=[.int .u8 z] by simp [encD,HCZ.out]];exact this
       case measure=>simp [intOf];omega
     ·obtain rfl:p=n:=(by omega);have e2:l1.length=p - a:=(by rw [HD.out.2.2,List.length_drop,HN.out]);have hr:=takeWhile_atD isD l1 k HK.out.1 HK.out.2 (.inl (by omega));have HF:Hid (ds=l1.take k):=by
       show _=_;rw [← HD.out.1,hr.1]
      have HP:Hid (a+ds.length=p):=by
       show _=_;rw [HF.out,List.length_take,Nat.min_eq_left HK.out.2];exact hp
      clear hr HK hi hz0 hz1 hz2 AT hp e2 hlt;go_wp2_with fail;go_meet
      case rel=>exact ⟨by rw [HP.out],by rw [HF.out];exact HO.out,XR⟩
   case rest =>
    obtain ⟨rfl,HO0,XW⟩:=hcut
    rename World=>w1
    have HO:Hid (OwnB w1 B u5 ds):=HO0;obtain ⟨p1,hp1⟩:∃ p,a+ds.length=p:=⟨_,rfl⟩;have H2:Hid (l2=l.drop p1∧p1≤n∧ds.length≤100∧ds.all isD=true):=by
     obtain ⟨e1,e2,e3⟩:=HD.out;have q1:l1.takeWhile isD++l1.dropWhile isD=l1:=List.takeWhile_append_dropWhile;have q2:ds.length≤l1.length:=(by rw [← e1];exact List.Sublist.length_le (List.takeWhile_sublist _));have q3:l1.length=n - a:=(by rw [e3,List.length_drop,HN.out]);have q4:l2=l1.drop ds.length:=by
      have q5:=List.drop_left (l₁:=l1.takeWhile isD) (l₂:=l1.dropWhile isD);rw [q1,e1,e2] at q5;exact q5.symm
     refine ⟨?_,by omega,by omega,by rw [← e1];exact ds0⟩;rw [q4,e3,List.drop_drop,hp1]
    have HMR:Hid (mantR neg l1=R):=HM;rw [hp1];replace Br:=Br.later XW;clear HO0 HM ds0;by_cases c1:ds=[]
    ·have HZ:Hid (badR=R):=by
      show _=_;rw [← HMR.out];unfold mantR;rw [HD.out.1]
      split
      ·rfl
      ·rw [if_pos (.inl c1)]
     have pa:p1=a:=(by rw [c1] at hp1;simpa using hp1.symm);subst pa;clear HMR hp1 c1 H2 HD hi hz0 hz1 hz2 AT HO;obtain ⟨⟨m0,m1,m2,m3⟩,m4,m5,m6,m7⟩:=id Br;go_wp2_with fail;exact bodyPost_ret (v:=.agg #[.bool false,.bool false,.int .i64 0,.int .i64 0]) (by simp [results,Tryz.results87,go_sem,m0,m1,m2,m3]) rfl ⟨by rw [← HZ.out];rfl,xset (xset (xset (xset (xt X0 XW) (by simp only;omega) _) (by simp only;omega) _) (by simp only;omega) _) (by simp only;omega) _⟩
    have d1:0<ds.length:=(by cases ds with | nil=>exact absurd rfl c1 | cons x y=>simp);have np:¬ (p1:Int)=(a:Int):=(by omega);have np':((p1:Int) == (a:Int))=false:=beq_eq_false_iff_ne.2 np;have p1n:(p1:Int)≤(n:Int):=(by have:=H2.out.2.1;omega);have HC1:Hid (ds ≠ []∧0<ds.length):=⟨c1,d1⟩;clear c1 d1 hp1;obtain ⟨dot,hdot⟩:∃ b,Lib.hasPrefix l2 [46]=b:=⟨_,rfl⟩;have HDT:Hid (Lib.hasPrefix l2 [46]=dot):=hdot;have hd2:dot=(decide (p1<n) && decide (l.getD p1 0=46)):=by
     rw [← hdot,H2.out.1,head_at,HN.out]
    clear hdot;go_upto_region 15 with fail;clear np np';go_cut [60] (fun v wc=>v=.bool dot∧wc=w1)
    case first=>as_aux_lemma =>
     by_cases hlt:p1<n
     ·have hps:p1<s.size:=(by omega);have hb:=AT.out p1 hps;have hpn:(p1:Int)<(n:Int):=(by omega);obtain ⟨z,hz⟩:∃ z:Int,((l.getD p1 0).toNat:Int)=z:=⟨_,rfl⟩;rw [hz] at hb;have HG:Hid ((z == 46)=dot):=by
       show _=_;rw [hd2,decide_eq_true hlt,Bool.true_and,← hz];exact byte_eq _ 46
      clear hd2 hz hlt HD H2 HMR hi hz0 hz1 hz2 AT HO HC1;go_wp2_with fail;go_meet
      case rel=>exact ⟨by rw [HG.out],rfl⟩
     ·have HG:Hid (false=dot):=by
       show _=_;rw [hd2,decide_eq_false hlt,Bool.false_and]
      have hpn:¬ (p1:Int)<(n:Int):=(by omega);have hpn':decide ((p1:Int)<(n:Int))=false:=decide_eq_false hpn;clear hd2 hlt HD H2 HMR hi hz0 hz1 hz2 AT HO HC1;go_wp2_with fail;go_meet
      case rel=>exact ⟨by rw [HG.out],rfl⟩
    case rest =>
     obtain ⟨rfl,hwc⟩:=hcut;rw [hwc];clear hwc;have HD2:Hid (dot=(decide (p1<n) && decide (l.getD p1 0=46))):=hd2;clear hd2;go_upto_if 60 with fail;go_cut [3,5,7] (fun i d e wc=>∃ (D l4:List UInt8) (p2:Nat) (ev:Int),i=.int .i64 p2∧e=.int .i64 ev∧OwnB wc B d D∧Ext w0 wc∧Hid (l4=l.drop p2∧p2≤n∧D.all isD=true∧0<D.length∧D.length≤200 ∧ -200≤ev∧ev≤0∧(match expR l4 with | none=>badR | some x=>putR neg (dvN D) (x+ev) false)=R))
     case first=>as_aux_lemma =>
      cases dot
      ·have HRR:Hid ((match expR l2 with | none=>badR | some x=>putR neg (dvN ds) (x+0) false)=R):=by
        show _=_;rw [← HMR.out];unfold mantR;rw [HD.out.1,HD.out.2.1,HDT.out];simp only [Bool.false_eq_true,if_false,false_and,or_false,if_neg HC1.out.1];cases expR l2 <;> simp
       clear HMR HD HDT HD2 hi hz0 hz1 hz2 AT;go_wp2_with fail;go_meet
       case rel=>exact ⟨ds,l2,p1,0,rfl,rfl,HO.out,XW,⟨H2.out.1,H2.out.2.1,H2.out.2.2.2,HC1.out.2,by have:=H2.out.2.2.1;omega,by omega,by omega,HRR.out⟩⟩
      ·have hlt1:p1<n:=(by have:=HD2.out;simp at this;exact this.1);obtain ⟨q,hq⟩:∃ q,p1+1=q:=⟨_,rfl⟩;have hq2:q≤n:=(by omega);have hqI:(p1:Int)+1=(q:Int):=(by omega);obtain ⟨l3,hl3⟩:∃ m,l.drop q=m:=⟨_,rfl⟩;have e3:Lib.trimPrefix l2 [46]=l3:=(by rw [H2.out.1,trim_at _ _ _ (by rw [← H2.out.1];exact HDT.out),hq,hl3]);have pa0:=all_take l3 isD;obtain ⟨pa,hpa⟩:∃ m,l3.takeWhile isD=m:=⟨_,rfl⟩;obtain ⟨l4,hl4⟩:∃ m,l3.dropWhile isD=m:=⟨_,rfl⟩;have HRR:Hid ((match expR l4 with | none=>badR | some x=>if pa=[] then badR else putR neg (dvN (ds++pa)) (x - pa.length) false)=R):=by
        show _=_;rw [← HMR.out];unfold mantR;rw [HD.out.1,HD.out.2.1,HDT.out,e3,hpa,hl4];simp only [if_true,true_and,HC1.out.1,false_or];cases expR l4 <;> rfl
       have H3:Hid (l3.takeWhile isD=pa∧l3.dropWhile isD=l4∧l3=l.drop q):=⟨hpa,hl4,hl3.symm⟩;have H4:Hid (l4=l.drop (q+pa.length)∧q+pa.length≤n∧pa.all isD=true):=by
        have q1:l3.takeWhile isD++l3.dropWhile isD=l3:=List.takeWhile_append_dropWhile;have q2:pa.length≤l3.length:=(by rw [← hpa];exact List.Sublist.length_le (List.takeWhile_sublist _));have q3:l3.length=n - q:=(by rw [← hl3,List.length_drop,HN.out]);have q5:=List.drop_left (l₁:=l3.takeWhile isD) (l₂:=l3.dropWhile isD);rw [q1,hpa,hl4] at q5;refine ⟨?_,by omega,by rw [← hpa];exact pa0⟩;rw [← q5,← hl3,List.drop_drop]
       have ds100:ds.length≤100:=H2.out.2.2.1;clear HMR HD HDT HD2 e3 pa0 hpa hl4 hl3;go_upto_block 2 with fail;clear hqI;go_cut [3,5] (fun i d wc=>i=.int .i64 ((q+pa.length:Nat):Int)∧OwnB wc B d (ds++pa)∧Ext w0 wc)
       case first=>as_aux_lemma =>
        go_wp2_with fail;go_loopw [3,5] (fun i d wr=>∃ k:Nat,i=.int .i64 ((q+k:Nat):Int)∧q+k≤n∧Hid ((l3.take k).all isD=true∧k≤l3.length)∧OwnB wr B d (ds++l3.take k)∧Ext w0 wr) (fun i _ _=>n+1 - (intOf i).toNat)
        case atStart=>exact ⟨0,rfl,hq2,⟨by simp,Nat.zero_le _⟩,by rw [List.take_zero,List.append_nil];exact HO.out,XW⟩
        case round =>
         obtain ⟨k,rfl,hk,HK,HO0,XR⟩:=hrel;have HO:Hid (OwnB wr B u5 (ds++l3.take k)):=HO0;have HU:=HO0.block;clear HO0;obtain ⟨p,hp⟩:∃ p,q+k=p:=⟨_,rfl⟩;rw [hp] at hk;rw [hp];by_cases hlt:p<n
         ·have hps:p<s.size:=(by omega);have hb:=AT.out p hps;have hpn:(p:Int)<(n:Int):=(by omega);obtain ⟨c,hc⟩:∃ c,l.getD p 0=c:=⟨_,rfl⟩;rw [hc] at hb;obtain ⟨z,hz⟩:∃ z:Int,(c.toNat:Int)=z:=⟨_,rfl⟩;rw [hz] at hb;have HC:Hid (l3.getD k 0=c∧k<l3.length):=by
           obtain ⟨_,_,e⟩:=H3.out;have e2:l3.length=n - q:=(by rw [e,List.length_drop,HN.out]);refine ⟨?_,by omega⟩;rw [e,List.getD_eq_getElem?_getD,List.getElem?_drop,hp,← List.getD_eq_getElem?_getD,hc]
          have HZ:Hid (isD c=decide (48≤z∧z≤57)):=by
           show _=_;unfold isD;rw [decide_eq_decide];omega
          have DG:=fun w=>digitS z w;cases hdg:decide (48≤z∧z≤57)
          ·rw [hdg] at DG;have hr:=takeWhile_atD isD l3 k HK.out.1 HK.out.2 (.inr (by rw [HC.out.1,HZ.out];exact hdg));have HF:Hid (pa=l3.take k):=by
            show _=_;rw [← H3.out.1,hr.1]
           have HP:Hid (q+pa.length=p):=by
            show _=_;rw [HF.out,List.length_take,Nat.min_eq_left HK.out.2];exact hp
           clear hr HK HC HZ hz hc hdg hi hz0 hz1 hz2 AT hp;go_wp2_with fail;refine (DG _).mono ?_;rintro rr w1 ⟨rfl,rfl⟩;go_wp2_with fail;go_meet
           case rel=>exact ⟨by rw [HP.out],by rw [HF.out];exact HO.out,XR⟩
          ·rw [hdg] at DG;have z2:=of_decide_eq_true hdg;have HT:Hid (l3.take (k+1)=l3.take k++[c]):=by
            show _=_;rw [take_atD HC.out.2,HC.out.1]
           have HK2:Hid ((l3.take (k+1)).all isD=true∧k+1≤l3.length):=by
            refine ⟨?_,HC.out.2⟩;rw [HT.out,List.all_append,HK.out.1];simp only [List.all_cons,List.all_nil,Bool.and_true,Bool.true_and];rw [HZ.out];exact hdg
           have HL:Hid ((l3.take k).length=k):=(by show _=_;rw [List.length_take,Nat.min_eq_left HK.out.2]);have hBs:B≤wr.heap.size:=(by have:=XR.size;omega);have HCZ:Hid ((c.toNat:Int)=z):=hz;clear HK HZ HC hz hc hdg AT;go_wp2_with fail;refine (DG _).mono ?_;rintro rr w1 ⟨rfl,rfl⟩;have xl:(ds++l3.take k).length≤200:=(by rw [List.length_append,HL.out];omega);go_wp2_with (at_builtin;refine wpList_append_own _ rfl _ _ 89 rfl B 5 i0 (.int .u8 0) 1 1 Tryz.underlying89 hi hz0 hz1 hz2 rfl (by decide) _ _ _ rfl (HO.out.alloc _) ⟨w1.heap.size,0,none⟩ 1 1 _ rfl rfl (cell_one_new _ _ _) (by intro u hu;simp at hu;subst hu;rfl) (by unfold maxLen;omega) (by omega) (by simp;omega) ?_;intro v5 w5 hown5 hgrow5 hnil5);go_roundw
           case rel =>
            refine ⟨k+1,by rw [← hp];rfl,by omega,HK2,?_,(xa XR _).grown hgrow5 (by simp;omega) (fun k hk=>by rw [hB];exact HU k hk)⟩;unfold OwnB;rw [HT.out,← List.append_assoc,encD_app (ds++l3.take k),show (ds++l3.take k++[c]).length=(ds++l3.take k).length+[c].length from List.length_append];have:=hown5;simp only [List.length_singleton] at this ⊢;rw [show encD [c]=[.int .u8 z] by simp [encD,HCZ.out]];exact this
           case measure=>simp [intOf];omega
         ·obtain rfl:p=n:=(by omega);have e2:l3.length=p - q:=(by rw [H3.out.2.2,List.length_drop,HN.out]);have hr:=takeWhile_atD isD l3 k HK.out.1 HK.out.2 (.inl (by omega));have HF:Hid (pa=l3.take k):=by
           show _=_;rw [← H3.out.1,hr.1]
          have HP:Hid (q+pa.length=p):=by
           show _=_;rw [HF.out,List.length_take,Nat.min_eq_left HK.out.2];exact hp
          clear hr HK hi hz0 hz1 hz2 AT hp e2 hlt;go_wp2_with fail;go_meet
          case rel=>exact ⟨by rw [HP.out],by rw [HF.out];exact HO.out,XR⟩
       case rest =>
        obtain ⟨rfl,HO2,XW2⟩:=hcut
        rename World=>w2
        have HP2:Hid (OwnB w2 B u5 (ds++pa)):=HO2;clear HO2 HO XW Br;obtain ⟨p2,hp2⟩:∃ p,q+pa.length=p:=⟨_,rfl⟩;rw [hp2];have p2n:(p2:Int)≤(n:Int):=(by have:=H4.out.2.1;omega);have qp:(q:Int)≤(p2:Int):=(by omega);by_cases pe:pa=[]
        ·have HZ:Hid (badR=R):=by
          show _=_;rw [← HRR.out]
          split
          ·rfl
          ·rw [if_pos pe]
         have pq:p2=q:=(by rw [pe] at hp2;simpa using hp2.symm);subst pq;have Br2:Box4 w2 w.heap.size (.bool false) (.bool false) (.int .i64 0) (.int .i64 0):=BrW.out.later XW2;clear HRR H3 H4 H2 HC1 pe hp2 hi hz0 hz1 hz2 AT HP2;obtain ⟨⟨m0,m1,m2,m3⟩,m4,m5,m6,m7⟩:=id Br2;go_wp2_with fail;exact bodyPost_ret (v:=.agg #[.bool false,.bool false,.int .i64 0,.int .i64 0]) (by simp [results,Tryz.results87,go_sem,m0,m1,m2,m3]) rfl ⟨by rw [← HZ.out];rfl,xset (xset (xset (xset (xt X0 XW2) (by simp only;omega) _) (by simp only;omega) _) (by simp only;omega) _) (by simp only;omega) _⟩
        ·have pl:0<pa.length:=(by cases pa with | nil=>exact absurd rfl pe | cons x y=>simp);have np:¬ (p2:Int)=(q:Int):=(by omega);have np':((p2:Int) == (q:Int))=false:=beq_eq_false_iff_ne.2 np;have HW:Hid (l4=l.drop p2∧p2≤n∧(ds++pa).all isD=true∧0<(ds++pa).length∧(ds++pa).length≤200 ∧ -200≤(q:Int) - (p2:Int)∧(q:Int) - (p2:Int)≤0∧(match expR l4 with | none=>badR | some x=>putR neg (dvN (ds++pa)) (x+((q:Int) - (p2:Int))) false)=R):=by
          refine ⟨by rw [← hp2];exact H4.out.1,by omega,by rw [List.all_append,H2.out.2.2.2,H4.out.2.2];rfl,by rw [List.length_append];omega,by rw [List.length_append];omega,by omega,by omega,?_⟩;rw [← HRR.out]
          split
          ·rfl
          ·rw [if_neg pe]
           congr 1
           omega
         clear HRR H3 H4 H2 HC1 pe hp2 hi hz0 hz1 hz2 AT pl;go_wp2_with fail;go_meet
         case rel=>exact ⟨ds++pa,l4,p2,(q:Int) - (p2:Int),rfl,rfl,HP2.out,XW2,HW⟩
     case rest =>
      obtain ⟨D,l4,p2,ev,rfl,rfl,HO2,XW2,HQ⟩:=hcut
      rename World=>w2
      clear HO XW;have HOD:Hid (OwnB w2 B u5 D):=HO2;clear HO2 H2 HC1 HD HMR p1n;have p2n:(p2:Int)≤(n:Int):=(by have:=HQ.out.2.1;omega);have evb : -200≤ev∧ev≤0:=⟨HQ.out.2.2.2.2.2.1,HQ.out.2.2.2.2.2.2.1⟩;obtain ⟨ise,hise⟩:∃ b,(decide (p2<n) && decide (l.getD p2 0=69∨l.getD p2 0=101))=b:=⟨_,rfl⟩;have HE:Hid ((decide (p2<n) && decide (l.getD p2 0=69∨l.getD p2 0=101))=ise):=hise;clear hise HD2 HDT;go_upto_region 24 with fail;go_cut [104] (fun v wc=>v=.bool ise∧wc=w2)
      case first=>as_aux_lemma =>
       by_cases hlt:p2<n
       ·have hps:p2<s.size:=(by omega);have hb:=AT.out p2 hps;have hpn:(p2:Int)<(n:Int):=(by omega);obtain ⟨z,hz⟩:∃ z:Int,((l.getD p2 0).toNat:Int)=z:=⟨_,rfl⟩;rw [hz] at hb;have HG:Hid (decide (z=69∨z=101)=ise):=by
         show _=_;rw [← HE.out,decide_eq_true hlt,Bool.true_and,← hz,decide_eq_decide];refine or_congr ?_ ?_
         ·exact ⟨fun h=>UInt8.toNat_inj.1 (by show _=69;omega),fun h=>by rw [h];rfl⟩
         ·exact ⟨fun h=>UInt8.toNat_inj.1 (by show _=101;omega),fun h=>by rw [h];rfl⟩
        clear hz hlt HE HQ HOD hi hz0 hz1 hz2 AT;by_cases z1:z=69
        ·subst z1;go_wp2_with fail;go_meet
         case rel=>exact ⟨by rw [← HG.out];rfl,rfl⟩
        ·by_cases z2:z=101
         ·subst z2;go_wp2_with fail;go_meet
          case rel=>exact ⟨by rw [← HG.out];rfl,rfl⟩
         ·have z1':(z == 69)=false:=beq_eq_false_iff_ne.2 z1;have z2':(z == 101)=false:=beq_eq_false_iff_ne.2 z2;go_wp2_with fail;go_meet
          case rel=>exact ⟨by rw [← HG.out,decide_eq_false (by omega)],rfl⟩
       ·have HG:Hid (false=ise):=by
         show _=_;rw [← HE.out,decide_eq_false hlt,Bool.false_and]
        have hpn:¬ (p2:Int)<(n:Int):=(by omega);have hpn':decide ((p2:Int)<(n:Int))=false:=decide_eq_false hpn;clear hlt HE HQ HOD hi hz0 hz1 hz2 AT;go_wp2_with fail;go_meet
        case rel=>exact ⟨by rw [HG.out],rfl⟩
      case rest =>
       obtain ⟨rfl,hwc⟩:=hcut;rw [hwc];clear hwc;go_upto_if 104 with fail;go_cut [3,7] (fun i e wc=>∃ (p3:Nat) (ex:Int),i=.int .i64 p3∧e=.int .i64 ex∧wc=w2∧p3≤n ∧ -20000≤ex∧ex≤20000∧Hid ((p3<n→badR=R)∧(p3=n→putR neg (dvN D) ex false=R)))
       case first=>as_aux_lemma =>
        cases ise
        ·have HQR:=HQ.out.2.2.2.2.2.2.2;rw [HQ.out.1] at HQR;have HF:Hid ((p2<n→badR=R)∧(p2=n→putR neg (dvN D) ev false=R)):=by
          refine ⟨fun h=>?_,fun h=>?_⟩
          ·have e:=HE.out;rw [decide_eq_true h,Bool.true_and,decide_eq_false_iff_not] at e;rw [exp_at l p2 (by rw [HN.out];exact h),if_neg e] at HQR;exact HQR
          ·rw [List.drop_eq_nil_of_le (by rw [HN.out];omega)] at HQR;have:=HQR;simp only [expR,Int.zero_add] at this;exact this
         clear HQR HQ HE hi hz0 hz1 hz2 AT HOD;go_wp2_with fail;go_meet
         case rel=>exact ⟨p2,ev,rfl,rfl,rfl,by omega,by omega,by omega,HF⟩
        ·have hE:=HE.out;rw [Bool.and_eq_true,decide_eq_true_eq,decide_eq_true_eq] at hE;obtain ⟨hlt2,hE2⟩:=hE;obtain ⟨q,hq⟩:∃ q,p2+1=q:=⟨_,rfl⟩;have hqI:(p2:Int)+1=(q:Int):=(by omega);have qn:(q:Int)≤(n:Int):=(by omega);obtain ⟨low,hlow⟩:∃ b,Lib.hasPrefix (l.drop q) [45]=b:=⟨_,rfl⟩;obtain ⟨pl,hpl⟩:∃ b,Lib.hasPrefix (l.drop q) [43]=b:=⟨_,rfl⟩;obtain ⟨q5,hq5⟩:∃ x,(if (low || pl)=true then q+1 else q)=x:=⟨_,rfl⟩;have low2:low=(decide (q<n) && decide (l.getD q 0=45)):=(by rw [← hlow,head_at,HN.out]);have pl2:pl=(decide (q<n) && decide (l.getD q 0=43)):=(by rw [← hpl,head_at,HN.out]);have hq5n:q5≤n∧q≤q5:=by
          rw [← hq5]
          split
          ·rename_i h;rw [low2,pl2,← Bool.and_or_distrib_left,Bool.and_eq_true,decide_eq_true_eq] at h;omega
          ·omega
         have HX:Hid ((match expT low (l.drop q5) with | none=>badR | some x=>putR neg (dvN D) (x+ev) false)=R):=by
          show _=_;have HQR:=HQ.out.2.2.2.2.2.2.2;rw [HQ.out.1,exp_at l p2 (by rw [HN.out];exact hlt2),if_pos hE2,hq,hlow] at HQR;rw [← HQR,← hq5];cases low
          ·simp only [Bool.false_or,Bool.false_eq_true,if_false];cases pl
           ·simp only [Bool.false_eq_true,if_false];unfold Lib.trimPrefix;rw [hpl];rfl
           ·rw [trim_at l q 43 hpl];rfl
          ·rw [trim_at l q 45 hlow];rfl
         have HL2:Hid (low=(decide (q<n) && decide (l.getD q 0=45))):=low2;have HP2':Hid (pl=(decide (q<n) && decide (l.getD q 0=43))):=pl2;have HQ5:Hid ((if (low || pl)=true then q+1 else q)=q5):=hq5;have HQD:Hid (D.all isD=true∧0<D.length∧D.length≤200):=⟨HQ.out.2.2.1,HQ.out.2.2.2.1,HQ.out.2.2.2.2.1⟩;clear low2 pl2 hlow hpl hq5 HQ HE hE2;go_upto_region 26 with fail;clear hqI;go_cut [8] (fun v wc=>v=.bool low∧wc=w2)
         case first=>as_aux_lemma =>
          by_cases hlt:q<n
          ·have hps:q<s.size:=(by omega);have hb:=AT.out q hps;have hpn:(q:Int)<(n:Int):=(by omega);obtain ⟨z,hz⟩:∃ z:Int,((l.getD q 0).toNat:Int)=z:=⟨_,rfl⟩;rw [hz] at hb;have HG:Hid ((z == 45)=low):=by
            show _=_;rw [HL2.out,decide_eq_true hlt,Bool.true_and,← hz];exact byte_eq _ 45
           clear hz hlt HL2 HP2' HQ5 HX hi hz0 hz1 hz2 AT HOD;go_wp2_with fail;go_meet
           case rel=>exact ⟨by rw [HG.out],rfl⟩
          ·have HG:Hid (false=low):=by
            show _=_;rw [HL2.out,decide_eq_false hlt,Bool.false_and]
           have hpn:¬ (q:Int)<(n:Int):=(by omega);have hpn':decide ((q:Int)<(n:Int))=false:=decide_eq_false hpn;clear hlt HL2 HP2' HQ5 HX hi hz0 hz1 hz2 AT HOD;go_wp2_with fail;go_meet
           case rel=>exact ⟨by rw [HG.out],rfl⟩
         case rest =>
          obtain ⟨rfl,hwc⟩:=hcut;rw [hwc];clear hwc;go_upto_region 27 with fail;go_cut [129] (fun v wc=>v=.bool (low || pl)∧wc=w2)
          case first=>as_aux_lemma =>
           cases low
           ·by_cases hlt:q<n
            ·have hps:q<s.size:=(by omega);have hb:=AT.out q hps;have hpn:(q:Int)<(n:Int):=(by omega);obtain ⟨z,hz⟩:∃ z:Int,((l.getD q 0).toNat:Int)=z:=⟨_,rfl⟩;rw [hz] at hb;have HG:Hid ((z == 43)=pl):=by
              show _=_;rw [HP2'.out,decide_eq_true hlt,Bool.true_and,← hz];exact byte_eq _ 43
             clear hz hlt HL2 HP2' HQ5 HX hi hz0 hz1 hz2 AT HOD;go_wp2_with fail;go_meet
             case rel=>exact ⟨by rw [HG.out,Bool.false_or],rfl⟩
            ·have HG:Hid (false=pl):=by
              show _=_;rw [HP2'.out,decide_eq_false hlt,Bool.false_and]
             have hpn:¬ (q:Int)<(n:Int):=(by omega);have hpn':decide ((q:Int)<(n:Int))=false:=decide_eq_false hpn;clear hlt HL2 HP2' HQ5 HX hi hz0 hz1 hz2 AT HOD;go_wp2_with fail;go_meet
             case rel=>exact ⟨by rw [← HG.out];rfl,rfl⟩
           ·clear HL2 HP2' HQ5 HX hi hz0 hz1 hz2 AT HOD;go_wp2_with fail;go_meet
            case rel=>exact ⟨by rw [Bool.true_or],rfl⟩
          case rest =>
           obtain ⟨rfl,hwc⟩:=hcut;rw [hwc];clear hwc HL2 HP2';obtain ⟨sg,hsg⟩:∃ b,(low || pl)=b:=⟨_,rfl⟩;rw [hsg] at HQ5;rw [hsg];clear hsg;go_upto_if 129 with fail;go_cut [3] (fun v wc=>v=.int .i64 q5∧wc=w2)
           case first=>as_aux_lemma =>
            cases sg
            ·have h5:q=q5:=HQ5.out;clear HQ5 HX hi hz0 hz1 hz2 AT HOD;subst h5;go_wp2_with fail;go_meet
             case rel=>exact ⟨rfl,rfl⟩
            ·have h5:q+1=q5:=HQ5.out;have h6:(q:Int)+1=(q5:Int):=(by omega);clear HQ5 HX hi hz0 hz1 hz2 AT HOD h5;go_wp2_with fail;go_meet
             case rel=>exact ⟨rfl,rfl⟩
           case rest =>
            obtain ⟨rfl,hwc⟩:=hcut;rw [hwc];clear hwc HQ5;obtain ⟨r,hr⟩:∃ m,l.drop q5=m:=⟨_,rfl⟩;have HRD:Hid (r=l.drop q5∧r.length=n - q5):=⟨hr.symm,by rw [← hr,List.length_drop,HN.out]⟩;rw [hr] at HX;clear hr;have q5n:q5≤n:=hq5n.1;go_upto_block 4 with fail;go_cut [3,9] (fun i m wc=>∃ k:Nat,i=.int .i64 ((q5+k:Nat):Int)∧m=.int .i64 (dvN (r.take k):Nat)∧q5+k≤n∧k≤5∧Hid ((r.take k).all isD=true∧k≤r.length∧(k<5→r.takeWhile isD=r.take k∧r.dropWhile isD=r.drop k))∧wc=w2)
            case first=>as_aux_lemma =>
             go_wp2_with fail;go_loopw [3,9] (fun i m wr=>∃ k:Nat,i=.int .i64 ((q5+k:Nat):Int)∧m=.int .i64 (dvN (r.take k):Nat)∧q5+k≤n∧k≤5∧Hid ((r.take k).all isD=true∧k≤r.length)∧wr=w2) (fun i _ _=>n+1 - (intOf i).toNat)
             case atStart=>exact ⟨0,rfl,rfl,q5n,by omega,⟨by simp,Nat.zero_le _⟩,rfl⟩
             case round =>
              obtain ⟨k,rfl,rfl,hk,hk5,HK,hwr⟩:=hrel;rw [hwr];clear hwr;obtain ⟨p,hp⟩:∃ p,q5+k=p:=⟨_,rfl⟩;rw [hp] at hk;rw [hp];obtain ⟨m,hm⟩:∃ m,dvN (r.take k)=m:=⟨_,rfl⟩;have mb:m<100000:=by
               have:=dvN_lt k (r.take k) (by rw [List.length_take,Nat.min_eq_left HK.out.2]) HK.out.1;rw [hm] at this;have:10 ^ k≤10 ^ 5:=Nat.pow_le_pow_right (by decide) hk5;omega
              have HM5:Hid (dvN (r.take k)=m):=hm;rw [hm];clear hm;by_cases hlt:p<n
              ·have hps:p<s.size:=(by omega);have hb:=AT.out p hps;have hpn:(p:Int)<(n:Int):=(by omega);obtain ⟨c,hc⟩:∃ c,l.getD p 0=c:=⟨_,rfl⟩;rw [hc] at hb;obtain ⟨z,hz⟩:∃ z:Int,(c.toNat:Int)=z:=⟨_,rfl⟩;rw [hz] at hb;have HC:Hid (r.getD k 0=c∧k<r.length):=by
                obtain ⟨e,e2⟩:=HRD.out;refine ⟨?_,by omega⟩;rw [e,List.getD_eq_getElem?_getD,List.getElem?_drop,hp,← List.getD_eq_getElem?_getD,hc]
               have HZ:Hid (isD c=decide (48≤z∧z≤57)):=by
                show _=_;unfold isD;rw [decide_eq_decide];omega
               have DG:=fun w=>digitS z w;cases hdg:decide (48≤z∧z≤57)
               ·rw [hdg] at DG;have hr:=takeWhile_atD isD r k HK.out.1 HK.out.2 (.inr (by rw [HC.out.1,HZ.out];exact hdg));have HF:Hid ((r.take k).all isD=true∧k≤r.length∧(k<5→r.takeWhile isD=r.take k∧r.dropWhile isD=r.drop k)):=⟨HK.out.1,HK.out.2,fun _=>hr⟩;have HPP:Hid (q5+k=p):=hp;clear hr HK HC HZ hz hc hdg hi hz0 hz1 hz2 AT hp;go_wp2_with fail;refine (DG _).mono ?_;rintro rr w1 ⟨rfl,rfl⟩;go_wp2_with fail;go_meet
                case rel=>exact ⟨k,by rw [HPP.out],by rw [HM5.out],by rw [HPP.out];exact hk,hk5,HF,rfl⟩
               ·rw [hdg] at DG;have z2:=of_decide_eq_true hdg;have HT:Hid (dvN (r.take (k+1))=m * 10+(z - 48).toNat∧(r.take (k+1)).all isD=true∧k+1≤r.length):=by
                 have e:r.take (k+1)=r.take k++[c]:=(by rw [take_atD HC.out.2,HC.out.1]);refine ⟨?_,?_,HC.out.2⟩
                 ·rw [e,dvN_snoc,HM5.out];omega
                 ·rw [e,List.all_append,HK.out.1];simp only [List.all_cons,List.all_nil,Bool.and_true,Bool.true_and];rw [HZ.out];exact hdg
                have HPP:Hid (q5+k=p):=hp;by_cases k5:k<5
                ·have pq:(p:Int) - (q5:Int)<5:=(by omega);clear HK HC HZ hz hc hdg hi hz0 hz1 hz2 AT hp;go_wp2_with fail;refine (DG _).mono ?_;rintro rr w1 ⟨rfl,rfl⟩;go_wp2_with fail;go_roundw
                 case rel=>exact ⟨k+1,by rw [← HPP.out];rfl,by rw [HT.out.1];congr 1;omega,by have:=HPP.out;omega,by omega,HT.out.2,by first | rfl | trivial⟩
                 case measure=>simp [intOf];omega
                ·have pq:¬ (p:Int) - (q5:Int)<5:=(by omega);have pq':decide ((p:Int) - (q5:Int)<5)=false:=decide_eq_false pq;have HF:Hid ((r.take k).all isD=true∧k≤r.length∧(k<5→r.takeWhile isD=r.take k∧r.dropWhile isD=r.drop k)):=⟨HK.out.1,HK.out.2,fun h=>absurd h k5⟩;clear HK HC HZ hz hc hdg hi hz0 hz1 hz2 AT hp HT;go_wp2_with fail;refine (DG _).mono ?_;rintro rr w1 ⟨rfl,rfl⟩;go_wp2_with fail;go_meet
                 case rel=>exact ⟨k,by rw [HPP.out],by rw [HM5.out],by rw [HPP.out];exact hk,hk5,HF,rfl⟩
              ·obtain rfl:p=n:=(by omega);have e2:=HRD.out.2;have hr:=takeWhile_atD isD r k HK.out.1 HK.out.2 (.inl (by omega));have HF:Hid ((r.take k).all isD=true∧k≤r.length∧(k<5→r.takeWhile isD=r.take k∧r.dropWhile isD=r.drop k)):=⟨HK.out.1,HK.out.2,fun _=>hr⟩;have HPP:Hid (q5+k=p):=hp;clear hr HK hi hz0 hz1 hz2 AT hp e2 hlt;go_wp2_with fail;go_meet
               case rel=>exact ⟨k,by rw [HPP.out],by rw [HM5.out],by rw [HPP.out];exact hk,hk5,HF,rfl⟩
            case rest =>
             obtain ⟨k,rfl,rfl,hk,hk5,HK,hwc⟩:=hcut;rw [hwc];clear hwc;obtain ⟨p3,hp⟩:∃ p,q5+k=p:=⟨_,rfl⟩;rw [hp] at hk;rw [hp];obtain ⟨m,hm⟩:∃ m,dvN (r.take k)=m:=⟨_,rfl⟩;have tl:(r.take k).length=k:=(by rw [List.length_take,Nat.min_eq_left HK.out.2.1]);by_cases kb:k=0∨k=5
             ·have HZ:Hid (badR=R):=by
               show _=_;rw [← HX.out];unfold expT;rw [if_pos ?_]
               rcases kb with rfl | rfl
               ·have:=(HK.out.2.2 (by omega)).1;rw [this];exact .inl (List.take_zero)
               ·have:=takeWhile_ge isD 5 r HK.out.2.1 HK.out.1;exact .inr (.inl (by omega))
              have Br2:Box4 w2 w.heap.size (.bool false) (.bool false) (.int .i64 0) (.int .i64 0):=BrW.out.later XW2;obtain ⟨⟨m0,m1,m2,m3⟩,m4,m5,m6,m7⟩:=id Br2;rw [hm];clear HX HK hi hz0 hz1 hz2 AT HOD hm tl HRD
              rcases kb with rfl | rfl
              ·obtain rfl:q5=p3:=hp;go_wp2_with fail;exact bodyPost_ret (v:=.agg #[.bool false,.bool false,.int .i64 0,.int .i64 0]) (by simp [results,Tryz.results87,go_sem,m0,m1,m2,m3]) rfl ⟨by rw [← HZ.out];rfl,xset (xset (xset (xset (xt X0 XW2) (by simp only;omega) _) (by simp only;omega) _) (by simp only;omega) _) (by simp only;omega) _⟩
              ·have np:¬ (p3:Int)=(q5:Int):=(by omega);have np':((p3:Int) == (q5:Int))=false:=beq_eq_false_iff_ne.2 np;have pq:4<(p3:Int) - (q5:Int):=(by omega);clear hp;go_wp2_with fail;exact bodyPost_ret (v:=.agg #[.bool false,.bool false,.int .i64 0,.int .i64 0]) (by simp [results,Tryz.results87,go_sem,m0,m1,m2,m3]) rfl ⟨by rw [← HZ.out];rfl,xset (xset (xset (xset (xt X0 XW2) (by simp only;omega) _) (by simp only;omega) _) (by simp only;omega) _) (by simp only;omega) _⟩
             ·have np:¬ (p3:Int)=(q5:Int):=(by omega);have np':((p3:Int) == (q5:Int))=false:=beq_eq_false_iff_ne.2 np;have pq:¬ 4<(p3:Int) - (q5:Int):=(by omega);have pq':decide (4<(p3:Int) - (q5:Int))=false:=decide_eq_false pq;have mb:m<10000:=by
               have:=dvN_lt k (r.take k) tl HK.out.1;rw [hm] at this;have:10 ^ k≤10 ^ 4:=Nat.pow_le_pow_right (by decide) (by omega);omega
              have HF:Hid ((p3<n→badR=R)∧(p3=n→putR neg (dvN D) (ev+(if low=true then -(m:Int) else m)) false=R)):=by
               obtain ⟨t1,t2⟩:=HK.out.2.2 (by omega);have e2:=HRD.out.2;have hne:¬ r.take k=[]:=fun h=>(by rw [h] at tl;simp at tl;omega);refine ⟨fun h=>?_,fun h=>?_⟩
               ·have hT:expT low r=none:=by
                 unfold expT;refine if_pos (.inr (.inr ?_));rw [t2];intro h0;have h1:=congrArg List.length h0;rw [List.length_drop,List.length_nil] at h1;omega
                rw [← HX.out,hT]
               ·have hT:expT low r=some (if low=true then -(m:Int) else m):=by
                 unfold expT;rw [t1,t2,List.drop_eq_nil_of_le (by omega),if_neg ?_,hm];rintro (h1 | h1 | h1)
                 ·exact hne h1
                 ·omega
                 ·exact h1 rfl
                rw [← HX.out,hT,Int.add_comm]
              rw [hm];clear HX HK hi hz0 hz1 hz2 AT HOD hm tl HRD hp kb;cases low
              ·go_wp2_with fail;go_meet
               case rel=>exact ⟨p3,_,rfl,rfl,rfl,hk,by omega,by omega,HF⟩
              ·go_wp2_with fail;go_meet
               case rel=>exact ⟨p3,_,rfl,rfl,rfl,hk,by omega,by omega,HF⟩
       case rest =>
        obtain ⟨p3,ex,rfl,rfl,hwc,p3n,ex1,ex2,HP3⟩:=hcut;rw [hwc];clear hwc;have HB2:=Br;by_cases hlt:p3<n
        ·have HZ:Hid (badR=R):=HP3.out.1 hlt;have hlt':(p3:Int)<(n:Int):=(by omega);have Br2:Box4 w2 w.heap.size (.bool false) (.bool false) (.int .i64 0) (.int .i64 0):=BrW.out.later XW2;obtain ⟨⟨m0,m1,m2,m3⟩,m4,m5,m6,m7⟩:=id Br2;clear HP3 HQ HOD hi hz0 hz1 hz2 AT hlt;go_wp2_with fail;exact bodyPost_ret (v:=.agg #[.bool false,.bool false,.int .i64 0,.int .i64 0]) (by simp [results,Tryz.results87,go_sem,m0,m1,m2,m3]) rfl ⟨by rw [← HZ.out];rfl,xset (xset (xset (xset (xt X0 XW2) (by simp only;omega) _) (by simp only;omega) _) (by simp only;omega) _) (by simp only;omega) _⟩
        ·have HZ:Hid (putR neg (dvN D) ex false=R):=HP3.out.2 (by omega);have hlt':¬ (p3:Int)<(n:Int):=(by omega);have hlt'':decide ((p3:Int)<(n:Int))=false:=decide_eq_false hlt';obtain ⟨dD,d0,d200⟩:D.all isD=true∧0<D.length∧D.length≤200:=⟨HQ.out.2.2.1,HQ.out.2.2.2.1,HQ.out.2.2.2.2.1⟩;have cv:=HOD.out.text d0;obtain ⟨tD,htD⟩:∃ t,bs D=t:=⟨_,rfl⟩;have RP:Hid (∀ w:World,Calls Tryz.prog 119 #[.string tD] w fun e w'=>∃ z0 z1 p n c,e=.returned (.agg #[.int .i64 z0,.bool z1,.slice p n c])∧ZV w' (.agg #[.int .i64 z0,.bool z1,.slice p n c]) (dvN D:Int)∧Ext w w'):=fun w=>by
          rw [← htD];refine (read_plain w (dgs_plain dD) (dgs_ten dD) (by rw [dgs_length];exact d0) (by rw [dgs_length];omega)).mono ?_;rintro e w' ⟨v',rfl,hz,hx⟩;rw [dgs_dv dD] at hz;obtain ⟨z0,z1,p,n,c,rfl⟩:=hz.shape;exact ⟨z0,z1,p,n,c,rfl,hz,hx⟩
         rw [htD] at cv;clear htD;have DB:Hid ((dvN D:Int)<1000000000 ^ 23):=dvN_big dD d200;obtain ⟨M,hM⟩:∃ M,dvN D=M:=⟨_,rfl⟩;rw [hM] at HZ RP DB;have PU:Hid (∀ (w2:World) (v:Value),ZV w2 v (if neg=true then -(M:Int) else M)→Calls Tryz.prog 121 #[v,.int .i64 ex,.bool false] w2 fun r w'=>r=.returned (resV R)∧Ext w2 w'):=fun w2 v hv=>by
          have db:=DB.out;rw [← HZ.out];cases neg
          ·exact put_spec ex false w2 hv 23 (by decide) db (by omega) (by omega) false M (by rfl) (fun _=>decide_eq_false (by simp only [Bool.false_eq_true,if_false];omega))
          ·refine put_spec ex false w2 hv 23 (by decide) ?_ (by omega) (by omega) true M (by simp only [if_true];omega) (fun h=>decide_eq_true (by simp only [if_true] at h ⊢;omega));simp only [if_true];rw [show ((-(M:Int)).natAbs:Int)=(M:Int) by omega];exact db
         have Br2:Box4 w2 w.heap.size (.bool false) (.bool false) (.int .i64 0) (.int .i64 0):=BrW.out.later XW2;have X2:=xt X0 XW2;clear HP3 HQ HOD HZ DB hM dD d0 d200 hi hz0 hz1 hz2 AT hlt Br HB2 XW2;go_wp2_with fail;refine (RP.out _).mono ?_;rintro r w3 ⟨z0,z1,z2,z3,z4,rfl,hz3,x3'⟩;have Z5:=ZIn.made 110 hz3;have y2':=x1 w3 (.cells #[.int .i64 z0,.bool z1,.slice z2 z3 z4] 110);obtain ⟨w4,hw4⟩:∃ u,w3.alloc (.cells #[.int .i64 z0,.bool z1,.slice z2 z3 z4] 110)=u:=⟨_,rfl⟩;rw [hw4] at Z5 y2';obtain ⟨b5,hb5⟩:∃ b,w3.heap.size=b:=⟨_,rfl⟩;rw [hb5] at Z5;have l5:w3.heap.size≤b5:=(by omega);have X3:=xt X2 x3';have Br3:=Br2.later x3';clear hz3 RP cv Br2 x3' X2;go_upto_if 183 with fail;clear hw4 hb5;go_cut [] (fun wc=>ZIn wc b5 (if neg=true then -(M:Int) else M)∧Ext w3 wc)
         case first=>as_aux_lemma =>
          clear PU Br3 X3;cases neg
          ·go_wp2_with fail;go_meet
           case rel=>exact ⟨Z5,y2'⟩
          ·have Z5':=Z5;obtain ⟨y0,y1,y2,y3,y4,⟨⟨i0,i1,i2⟩,_⟩,hy⟩:=Z5';go_wp2_with fail;refine (minus_any _ hy).mono ?_;rintro r w5 ⟨v5,rfl,hz5,x5⟩;obtain ⟨c0,c1,c2,c3,c4,rfl⟩:=hz5.shape;have Z6:=Z5.later x5;have Z6':=Z6;obtain ⟨g0,g1,g2,g3,g4,⟨⟨k0,k1,k2⟩,j0,j1,j2⟩,_⟩:=Z6';clear i0 i1 i2 hy;go_wp2_with fail;go_meet
           case rel=>exact ⟨Z6.put hz5,Ext.set3 (xt y2' x5) l5 _ _ _⟩
         case rest =>
          obtain ⟨Z6,x6⟩:=hcut
          rename World=>w6
          obtain ⟨y0,y1,y2,y3,y4,⟨⟨i0,i1,i2⟩,_⟩,hy⟩:=Z6;have Br6:=Br3.later x6;have X6:=xt X3 x6;clear Z5 y2' l5 Br3 X3 x6;go_wp2_with fail;refine (PU.out _ _ hy).mono ?_;rintro r w7 ⟨rfl,x7⟩;obtain ⟨⟨m0,m1,m2,m3⟩,n0,n1,n2,n3⟩:=Br6.later x7;clear i0 i1 i2 hy;go_wp2_with fail;exact bodyPost_ret (v:=resV R) (by simp [results,Tryz.results87,go_sem,m0,m1,m2,m3]) rfl ⟨rfl,xset (xset (xset (xset (xt X6 x7) (Nat.le_refl _) _) (Nat.le_refl _) _) (Nat.le_refl _) _) (Nat.le_refl _) _⟩
end Go.Proofs.YtiaakhogigddbaaGreatDoor

