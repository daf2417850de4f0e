/-
  Several texts in one: N7d, Fy2.
-/
import Derived.Test.YtogecaajnjcenaaGreatDoorMg48
import Derived.Deep.RegionHeld3
import Derived.Test.YtogecaajnjcenaaGreatDoorMg47
namespace Go.Proofs.YtogecaajnjcenaaGreatDoor
open Go.RowKit
theorem infoN:(Tryz.prog.info? 43).map (fun i=>(i.zero,i.size,i.bytes))=some (some (.agg #[.int .i64 0,sV [],.bool false,.int .i64 0,.int .i64 0,.int .i64 0,.int .i64 0,.bool false,.bool false,.int .i64 0,.int .i64 0,.bool false,.bool false,.int .i64 0]),14,104):=by kernel_rfl
theorem makeN (n:Nat) (hn:n≤2000000) (w:World) :
  (Instr.makeSlice 25 (.int .i64 (n:Int)) (.int .i64 (n:Int))).run Tryz.prog w=.ok (.slice (some ⟨w.heap.size,0,none⟩) n n) (w.alloc (.cells (madeCells #[.int .i64 0,sV [],.bool false,.int .i64 0,.int .i64 0,.int .i64 0,.int .i64 0,.bool false,.bool false,.int .i64 0,.int .i64 0,.bool false,.bool false,.int .i64 0] (n * 14)) 43)):=by
 obtain ⟨i,hi,hzz⟩:=Option.map_eq_some_iff.1 infoN;simp only [Prod.mk.injEq] at hzz;obtain ⟨hz,hs,hb⟩:=hzz;have hr:=run_make (P:=Tryz.prog) w 25 43 i _ Tryz.underlying25 hi hz .i64 .i64 n n (by omega) (Int.le_refl _) (by rw [hb];omega) (by omega);simp only [Int.toNat_natCast,hs] at hr;exact hr
def mixN (l:List NT) (k:Nat):List NT:=l.take k++List.replicate (l.length - k) zeroNT
theorem mixN_length (l:List NT) (k:Nat) (h:k≤l.length):(mixN l k).length=l.length:=by simp [mixN];omega
theorem mixN_zero (l:List NT):mixN l 0=List.replicate l.length zeroNT:=by simp [mixN]
theorem mixN_all (l:List NT):mixN l l.length=l:=by simp [mixN]
theorem mixN_at {l:List NT} {k:Nat} (h:k<l.length):(mixN l k)[k]?=some zeroNT:=by
 unfold mixN;rw [List.getElem?_append_right (by simp;omega),List.getElem?_replicate,if_pos (by rw [List.length_take];omega)]
theorem mixN_succ {l:List NT} {k:Nat} {e:NT} (h:l[k]?=some e):(mixN l k).set k e=mixN l (k+1):=by
 have hk:k<l.length:=(List.getElem?_eq_some_iff.1 h).1;apply List.ext_getElem?;intro i;rw [List.getElem?_set];unfold mixN;by_cases e1:k=i
 ·subst e1;rw [if_pos rfl,if_pos (by simp;omega),List.getElem?_append_left (by simp;omega),List.getElem?_take,if_pos (by omega),h]
 ·rw [if_neg e1]
  rcases Nat.lt_or_ge i k with hi | hi
  ·rw [List.getElem?_append_left (by simp;omega),List.getElem?_append_left (by simp;omega),List.getElem?_take,List.getElem?_take,if_pos hi,if_pos (by omega)]
  ·rw [List.getElem?_append_right (by simp;omega),List.getElem?_append_right (by simp;omega),List.getElem?_replicate,List.getElem?_replicate];simp only [List.length_take];by_cases h2:i<l.length
   ·rw [if_pos (by omega),if_pos (by omega)]
   ·rw [if_neg (by omega),if_neg (by omega)]
set_option maxRecDepth 8000 in
set_option maxHeartbeats 1000000 in
theorem toNodes (v:Value) (l:List NT) (w:World) (h:NodesIn w v l) (hl:l.length≤2000000) :
  Calls Tryz.prog 7 #[v] w fun e w'=>(∃ g,e=.returned (.slice (some ⟨g,0,none⟩) l.length l.length)∧w.heap.size≤g∧OwnN w' g l)∧Ext w w':=by
 obtain ⟨p,cap,rfl,hcap,hrow⟩:=h;obtain ⟨n,hn⟩:∃ n,l.length=n:=⟨_,rfl⟩;have HN:Hid (l.length=n):=hn;have hmk:=makeN n (by omega);have O0:=OwnN.made w n 43;have X0:=x1 w (.cells (madeCells #[.int .i64 0,sV [],.bool false,.int .i64 0,.int .i64 0,.int .i64 0,.int .i64 0,.bool false,.bool false,.int .i64 0,.int .i64 0,.bool false,.bool false,.int .i64 0] (n * 14)) 43);rw [hn] at hcap hl hrow ⊢;have HRow:Hid (0<n→∃ b o,p=some ⟨b,o,none⟩∧RowN w b o l):=hrow;obtain ⟨wa,ha⟩:∃ wa,w.alloc (.cells (madeCells #[.int .i64 0,sV [],.bool false,.int .i64 0,.int .i64 0,.int .i64 0,.int .i64 0,.bool false,.bool false,.int .i64 0,.int .i64 0,.bool false,.bool false,.int .i64 0] (n * 14)) 43)=wa:=⟨_,rfl⟩;rw [ha] at O0 X0;have HO:Hid (OwnN wa w.heap.size (mixN l 0)):=by show OwnN _ _ _;rw [mixN_zero,hn];exact O0
 obtain ⟨g,hg⟩:∃ g,w.heap.size=g:=⟨_,rfl⟩;have HG:Hid (w.heap.size≤g):=by show _≤_;omega
 rw [hg] at HO;clear hn hrow O0;go_enter Tryz.func7,Tryz.ntmps7;go_wp2_with fail;clear hmk ha;go_loopw [4] (fun i wr=>∃ k:Nat,k≤n∧i=.int .i64 k∧Hid (OwnN wr g (mixN l k))∧Ext w wr) (fun i _=>n - (intOf i).toNat)
 case atStart=>exact ⟨0,by omega,rfl,HO,X0⟩
 case round =>
  obtain ⟨k,hk,rfl,HK,X⟩:=hrel;by_cases hlt:k<n
  ·obtain ⟨e,he⟩:∃ e,l[k]?=some e:=⟨_,List.getElem?_eq_getElem (by rw [HN.out];exact hlt)⟩;obtain ⟨b,o,rfl,hR⟩:=HRow.out (by omega);obtain ⟨a0,a1,a2,a3,a4,a5,a6,a7,a8,a9,a10,a11,a12,a13⟩:=(hR.later X).all he;have HP:Hid (∀ W,OwnN W g (mixN l k)→OwnN ((((((((((((((W.setCell ⟨g,k * 14,none⟩ (.int .i64 e.k)).setCell ⟨g,k * 14+1,none⟩ (sV e.t)).setCell ⟨g,k * 14+2,none⟩ (.bool e.n)).setCell ⟨g,k * 14+3,none⟩ (.int .i64 e.d)).setCell ⟨g,k * 14+4,none⟩ (.int .i64 e.x)).setCell ⟨g,k * 14+5,none⟩ (.int .i64 e.r)).setCell ⟨g,k * 14+6,none⟩ (.int .i64 e.c)).setCell ⟨g,k * 14+7,none⟩ (.bool e.f)).setCell ⟨g,k * 14+8,none⟩ (.bool e.g)).setCell ⟨g,k * 14+9,none⟩ (.int .i64 e.r2)).setCell ⟨g,k * 14+10,none⟩ (.int .i64 e.c2)).setCell ⟨g,k * 14+11,none⟩ (.bool e.f2)).setCell ⟨g,k * 14+12,none⟩ (.bool e.g2)).setCell ⟨g,k * 14+13,none⟩ (.int .i64 e.q)) g (mixN l (k+1))):=fun W hW=>by
    rw [← mixN_succ he];exact hW.put (by rw [mixN_length _ _ (by rw [HN.out];exact hk),HN.out];exact hlt) e
   obtain ⟨ek,et,en,ed,ex,er,ec,ef,eg,er2,ec2,ef2,eg2,eq⟩:=e;have i2:(k:Int)<(n:Int):=by omega
   clear hR he;dsimp only at a0 a1 a2 a3 a4 a5 a6 a7 a8 a9 a10 a11 a12 a13 HP;go_wp2_with fail;clear a0 a1 a2 a3 a4 a5 a6 a7 a8 a9 a10 a11 a12 a13;refine (toNode ek et en ed ex er ec ef eg er2 ec2 ef2 eg2 eq _).mono ?_;rintro r w' ⟨rfl,E⟩;have HK':=HK.out.later E;obtain ⟨⟨b0,b1,b2,b3,b4,b5,b6,b7,b8,b9,b10,b11,b12,b13⟩,f0,f1,f2,f3,f4,f5,f6,f7,f8,f9,f10,f11,f12,f13⟩:=HK'.all (mixN_at (by rw [HN.out];exact hlt));have X':=xt X E;obtain ⟨wy,hy⟩:∃ wy,((((((((((((((w'.setCell ⟨g,k * 14,none⟩ (.int .i64 ek)).setCell ⟨g,k * 14+1,none⟩ (sV et)).setCell ⟨g,k * 14+2,none⟩ (.bool en)).setCell ⟨g,k * 14+3,none⟩ (.int .i64 ed)).setCell ⟨g,k * 14+4,none⟩ (.int .i64 ex)).setCell ⟨g,k * 14+5,none⟩ (.int .i64 er)).setCell ⟨g,k * 14+6,none⟩ (.int .i64 ec)).setCell ⟨g,k * 14+7,none⟩ (.bool ef)).setCell ⟨g,k * 14+8,none⟩ (.bool eg)).setCell ⟨g,k * 14+9,none⟩ (.int .i64 er2)).setCell ⟨g,k * 14+10,none⟩ (.int .i64 ec2)).setCell ⟨g,k * 14+11,none⟩ (.bool ef2)).setCell ⟨g,k * 14+12,none⟩ (.bool eg2)).setCell ⟨g,k * 14+13,none⟩ (.int .i64 eq))=wy:=⟨_,rfl⟩;have HQ:Hid (OwnN wy g (mixN l (k+1))):=by show OwnN _ _ _;rw [← hy];exact HP.out _ HK'
   have HX:Hid (Ext w wy):=by
    show Ext _ _;rw [← hy];exact (xset (xset (xset (xset (xset (xset (xset (xset (xset (xset (xset (xset (xset (xset X' HG.out _) HG.out _) HG.out _) HG.out _) HG.out _) HG.out _) HG.out _) HG.out _) HG.out _) HG.out _) HG.out _) HG.out _) HG.out _) HG.out _)
   clear HK' HK HP X X' E;go_wp2_with fail;go_roundw
   case rel=>exact ⟨k+1,by omega,by go_num,HQ,HX.out⟩
   case measure=>simp [intOf];omega
  ·obtain rfl:k=n:=by omega
   have HF:Hid (OwnN wr g l):=by have:=HK.out;rw [← HN.out,mixN_all] at this;exact this
   clear HK;go_wp2_with fail;go_ret;exact ⟨⟨g,rfl,HG.out,HF.out⟩,X⟩
set_option maxHeartbeats 1000000 in
theorem eqDecN_same (n:Bool) (d x:Int) (w:World) :
  Calls Tryz.prog 28 #[decV n d x,decV n d x] w fun e w'=>e=.returned (.bool true)∧Ext w w':=by
 go_enter Tryz.func28,Tryz.ntmps28
 go_wp2
 all_goals go_ret
 all_goals first | exact ⟨rfl,xa (x1 _ _) _⟩ | simp_all
set_option maxRecDepth 8000 in
set_option maxHeartbeats 2000000 in
theorem eqNode_same (k:Int) (t:List UInt8) (n:Bool) (d:Int) (x:Int) (r:Int) (c:Int) (f:Bool) (g:Bool) (r2:Int) (c2:Int) (f2:Bool) (g2:Bool) (q:Int) (w:World) :
  Calls Tryz.prog 16 #[nodV k t n d x r c f g r2 c2 f2 g2 q,nodV k t n d x r c f g r2 c2 f2 g2 q] w fun e w'=>e=.returned (.bool true)∧Ext w w':=by
 have X1:=x1 w (.cells #[.int .i64 k,sV t,.bool n,.int .i64 d,.int .i64 x,.int .i64 r,.int .i64 c,.bool f,.bool g,.int .i64 r2,.int .i64 c2,.bool f2,.bool g2,.int .i64 q] 43);have B1:=vec_made w [.int .i64 k,sV t,.bool n,.int .i64 d,.int .i64 x,.int .i64 r,.int .i64 c,.bool f,.bool g,.int .i64 r2,.int .i64 c2,.bool f2,.bool g2,.int .i64 q] 43;obtain ⟨wa,ha⟩:∃ wa,w.alloc (.cells #[.int .i64 k,sV t,.bool n,.int .i64 d,.int .i64 x,.int .i64 r,.int .i64 c,.bool f,.bool g,.int .i64 r2,.int .i64 c2,.bool f2,.bool g2,.int .i64 q] 43)=wa:=⟨_,rfl⟩;have B2:=vec_made wa [.int .i64 k,sV t,.bool n,.int .i64 d,.int .i64 x,.int .i64 r,.int .i64 c,.bool f,.bool g,.int .i64 r2,.int .i64 c2,.bool f2,.bool g2,.int .i64 q] 43;have X2:=x1 wa (.cells #[.int .i64 k,sV t,.bool n,.int .i64 d,.int .i64 x,.int .i64 r,.int .i64 c,.bool f,.bool g,.int .i64 r2,.int .i64 c2,.bool f2,.bool g2,.int .i64 q] 43);obtain ⟨wb,hb⟩:∃ wb,wa.alloc (.cells #[.int .i64 k,sV t,.bool n,.int .i64 d,.int .i64 x,.int .i64 r,.int .i64 c,.bool f,.bool g,.int .i64 r2,.int .i64 c2,.bool f2,.bool g2,.int .i64 q] 43)=wb:=⟨_,rfl⟩;have sa:wa.heap.size=w.heap.size+1:=by rw [← ha,World.size_alloc]
 change Vec (w.alloc (.cells #[.int .i64 k,sV t,.bool n,.int .i64 d,.int .i64 x,.int .i64 r,.int .i64 c,.bool f,.bool g,.int .i64 r2,.int .i64 c2,.bool f2,.bool g2,.int .i64 q] 43)) _ _ at B1;change Vec (wa.alloc (.cells #[.int .i64 k,sV t,.bool n,.int .i64 d,.int .i64 x,.int .i64 r,.int .i64 c,.bool f,.bool g,.int .i64 r2,.int .i64 c2,.bool f2,.bool g2,.int .i64 q] 43)) _ _ at B2;rw [ha] at X1 B1;rw [hb] at X2 B2;rw [sa] at B2;have X:=xt X1 X2;have B1:=B1.later X2;have hp:(t == t)=true:=by simp
 clear X1 X2;have a0:=(B1 0 _ rfl).1;have a1:=(B1 1 _ rfl).1;have a2:=(B1 2 _ rfl).1;have a3:=(B1 3 _ rfl).1;have a4:=(B1 4 _ rfl).1;have c0:=(B2 0 _ rfl).1;have c1:=(B2 1 _ rfl).1;have c2:=(B2 2 _ rfl).1;have c3:=(B2 3 _ rfl).1;have c4:=(B2 4 _ rfl).1;go_enter Tryz.func16,Tryz.ntmps16;go_wp2_with fail;clear ha hb sa a0 a1 a2 a3 a4 c0 c1 c2 c3 c4;refine (eqDecN_same n d x wb).mono ?_;rintro e w1 ⟨rfl,e1⟩;have C1:=B1.later e1;have C2:=B2.later e1;have XA:=xt X e1;clear B1 B2;have a5:=(C1 5 _ rfl).1;have a6:=(C1 6 _ rfl).1;have a7:=(C1 7 _ rfl).1;have a8:=(C1 8 _ rfl).1;have k5:=(C2 5 _ rfl).1;have k6:=(C2 6 _ rfl).1;have k7:=(C2 7 _ rfl).1;have k8:=(C2 8 _ rfl).1;go_wp2_with fail;clear a5 a6 a7 a8 k5 k6 k7 k8;refine (eqRef_same r c f g w1).mono ?_;rintro e w2 ⟨rfl,e2⟩;have D1:=C1.later e2;have D2:=C2.later e2;have XB:=xt XA e2;clear C1 C2;have a9:=(D1 9 _ rfl).1;have a10:=(D1 10 _ rfl).1;have a11:=(D1 11 _ rfl).1;have a12:=(D1 12 _ rfl).1;have k9:=(D2 9 _ rfl).1;have k10:=(D2 10 _ rfl).1;have k11:=(D2 11 _ rfl).1;have k12:=(D2 12 _ rfl).1;go_wp2_with fail;clear a9 a10 a11 a12 k9 k10 k11 k12;refine (eqRef_same r2 c2 f2 g2 w2).mono ?_;rintro e w3 ⟨rfl,e3⟩;have E1:=D1.later e3;have E2:=D2.later e3;have XC:=xt XB e3;clear D1 D2;have a13:=(E1 13 _ rfl).1;have k13:=(E2 13 _ rfl).1;go_wp2_with fail;go_ret;exact ⟨rfl,XC⟩
set_option maxRecDepth 8000 in
set_option maxHeartbeats 2000000 in
theorem eqNodes (v v':Value) (l:List NT) (w:World) (h:NodesIn w v l) (h':NodesIn w v' l) (hl:l.length≤2000000) :
  Calls Tryz.prog 9 #[v,v'] w fun e w'=>e=.returned (.bool true)∧Ext w w':=by
 obtain ⟨p,cap,rfl,hcap,hrow⟩:=h;obtain ⟨p',cap',rfl,hcap',hrow'⟩:=h';obtain ⟨n,hn⟩:∃ n,l.length=n:=⟨_,rfl⟩;have HN:Hid (l.length=n):=hn;rw [hn] at hcap hcap' hl hrow hrow' ⊢;have HRow:Hid (0<n→∃ b o,p=some ⟨b,o,none⟩∧RowN w b o l):=hrow;have HRow':Hid (0<n→∃ b o,p'=some ⟨b,o,none⟩∧RowN w b o l):=hrow';clear hn hrow hrow';go_enter Tryz.func9,Tryz.ntmps9;go_wp2_with fail;go_loopw [5] (fun i wr=>∃ k:Nat,k≤n∧i=.int .i64 k∧Ext w wr) (fun i _=>n - (intOf i).toNat)
 case atStart=>exact ⟨0,by omega,rfl,xr _⟩
 case round =>
  obtain ⟨k,hk,rfl,X⟩:=hrel;by_cases hlt:k<n
  ·obtain ⟨e,he⟩:∃ e,l[k]?=some e:=⟨_,List.getElem?_eq_getElem (by rw [HN.out];exact hlt)⟩;obtain ⟨b,o,rfl,hR⟩:=HRow.out (by omega);obtain ⟨b',o',rfl,hR'⟩:=HRow'.out (by omega);obtain ⟨a0,a1,a2,a3,a4,a5,a6,a7,a8,a9,a10,a11,a12,a13⟩:=(hR.later X).all he;obtain ⟨c0,c1,c2,c3,c4,c5,c6,c7,c8,c9,c10,c11,c12,c13⟩:=(hR'.later X).all he;obtain ⟨ek,et,en,ed,ex,er,ec,ef,eg,er2,ec2,ef2,eg2,eq⟩:=e;have i2:(k:Int)<(n:Int):=by omega
   clear hR hR' he;dsimp only at a0 a1 a2 a3 a4 a5 a6 a7 a8 a9 a10 a11 a12 a13 c0 c1 c2 c3 c4 c5 c6 c7 c8 c9 c10 c11 c12 c13;go_wp2_with fail;go_region_held3 (fun w'=>(w'.cell? ⟨b,o+k * 14,none⟩=some (.int .i64 ek)∧w'.cell? ⟨b,o+k * 14+1,none⟩=some (sV et)∧w'.cell? ⟨b,o+k * 14+2,none⟩=some (.bool en)∧w'.cell? ⟨b,o+k * 14+3,none⟩=some (.int .i64 ed)∧w'.cell? ⟨b,o+k * 14+4,none⟩=some (.int .i64 ex)∧w'.cell? ⟨b,o+k * 14+5,none⟩=some (.int .i64 er)∧w'.cell? ⟨b,o+k * 14+6,none⟩=some (.int .i64 ec)∧w'.cell? ⟨b,o+k * 14+7,none⟩=some (.bool ef)∧w'.cell? ⟨b,o+k * 14+8,none⟩=some (.bool eg)∧w'.cell? ⟨b,o+k * 14+9,none⟩=some (.int .i64 er2)∧w'.cell? ⟨b,o+k * 14+10,none⟩=some (.int .i64 ec2)∧w'.cell? ⟨b,o+k * 14+11,none⟩=some (.bool ef2)∧w'.cell? ⟨b,o+k * 14+12,none⟩=some (.bool eg2)∧w'.cell? ⟨b,o+k * 14+13,none⟩=some (.int .i64 eq))∧w'.cell? ⟨b',o'+k * 14,none⟩=some (.int .i64 ek)∧w'.cell? ⟨b',o'+k * 14+1,none⟩=some (sV et)∧w'.cell? ⟨b',o'+k * 14+2,none⟩=some (.bool en)∧w'.cell? ⟨b',o'+k * 14+3,none⟩=some (.int .i64 ed)∧w'.cell? ⟨b',o'+k * 14+4,none⟩=some (.int .i64 ex)∧w'.cell? ⟨b',o'+k * 14+5,none⟩=some (.int .i64 er)∧w'.cell? ⟨b',o'+k * 14+6,none⟩=some (.int .i64 ec)∧w'.cell? ⟨b',o'+k * 14+7,none⟩=some (.bool ef)∧w'.cell? ⟨b',o'+k * 14+8,none⟩=some (.bool eg)∧w'.cell? ⟨b',o'+k * 14+9,none⟩=some (.int .i64 er2)∧w'.cell? ⟨b',o'+k * 14+10,none⟩=some (.int .i64 ec2)∧w'.cell? ⟨b',o'+k * 14+11,none⟩=some (.bool ef2)∧w'.cell? ⟨b',o'+k * 14+12,none⟩=some (.bool eg2)∧w'.cell? ⟨b',o'+k * 14+13,none⟩=some (.int .i64 eq)) (go_keep)
    (first
     | (go_at_call 16;refine (eqNode_same ek et en ed ex er ec ef eg er2 ec2 ef2 eg2 eq _).mono ?_;rintro e w' ⟨rfl,E⟩;have Y:=xt (xd (xr _)) E;have r0:=cell_later Y a0;have r1:=cell_later Y a1;have r2:=cell_later Y a2;have r3:=cell_later Y a3;have r4:=cell_later Y a4;have r5:=cell_later Y a5;have r6:=cell_later Y a6;have r7:=cell_later Y a7;have r8:=cell_later Y a8;have r9:=cell_later Y a9;have r10:=cell_later Y a10;have r11:=cell_later Y a11;have r12:=cell_later Y a12;have r13:=cell_later Y a13;have s0:=cell_later Y c0;have s1:=cell_later Y c1;have s2:=cell_later Y c2;have s3:=cell_later Y c3;have s4:=cell_later Y c4;have s5:=cell_later Y c5;have s6:=cell_later Y c6;have s7:=cell_later Y c7;have s8:=cell_later Y c8;have s9:=cell_later Y c9;have s10:=cell_later Y c10;have s11:=cell_later Y c11;have s12:=cell_later Y c12;have s13:=cell_later Y c13))
   go_wp2_with fail;go_roundw
   case rel=>exact ⟨k+1,by omega,by go_num,xt X Y⟩
   case measure=>simp [intOf];omega
  ·obtain rfl:k=n:=by omega
   go_wp2_with fail;go_ret;exact ⟨rfl,X⟩
set_option maxRecDepth 8000 in
set_option maxHeartbeats 4000000 in
theorem lawFmlText (v:Value) (f:List NT) (w:World) (h:NodesIn w v f) (hl:f.length≤9223372036854775807) (ht:∀ e ∈ f,e.t.length≤9223372036854775807) (hd:∀ e ∈ f,-9223372036854775808≤e.d∧e.d≤9223372036854775807) (hT:Tens w) (hE:ErrTab w) (hO:OpTab w) (LW:LibW w) (IT:ItoaC w) (hM:Tab14 w) :
  Calls Tryz.prog 3 #[v] w fun e w'=>e=.returned (.bool true)∧Ext w w':=by
 have C0:=szNodes v f 1048576 w h (by omega) (by omega) hl ht;go_enter Tryz.func3,Tryz.ntmps3;go_wp2_with fail;refine C0.mono ?_;rintro e w1 ⟨⟨z,rfl,z0,z1,hz⟩,e1⟩;clear C0;by_cases hn:z<0
 ·clear hz;go_wp2_with fail;go_ret;exact ⟨rfl,e1⟩
 ·obtain ⟨hl1,ht1⟩:=hz (by omega);have hl2:f.length≤1048576:=by omega
  have hr:∀ x ∈ f,x.fits:=fun x hx=>⟨by have:=ht1 x hx;omega,hd x hx⟩;have hx:∀ x ∈ f,x.t.length≤1048576:=fun x hx=>(hr x hx).1;have HTN:Hid (∀ W,Ext w W→Calls Tryz.prog 7 #[v] W fun e w'=>(∃ g,e=.returned (.slice (some ⟨g,0,none⟩) f.length f.length)∧W.heap.size≤g∧OwnN w' g f)∧Ext W w'):=fun W X=>toNodes v f W (h.later X) (by omega);have HEQ:Hid (∀ W g g',OwnN W g f→OwnN W g' f→Calls Tryz.prog 9 #[.slice (some ⟨g,0,none⟩) f.length f.length,.slice (some ⟨g',0,none⟩) f.length f.length] W fun e w'=>e=.returned (.bool true)∧Ext W w'):=fun W g g' o o'=>eqNodes _ _ f W o.nodes o'.nodes (by omega);have HGS:Hid (∀ W g,OwnN W g f→Calls Tryz.prog 6 #[.slice (some ⟨g,0,none⟩) f.length f.length] W fun e w'=>e=.returned (sV (told decN refT f))∧Ext W w'):=fun W g o=>fmlTextS _ f W o.nodes hx;have HGI:Hid (∀ W g,Ext w W→OwnN W g f→Calls Tryz.prog 8 #[.slice (some ⟨g,0,none⟩) f.length f.length] W fun e w'=>e=.returned (sV (told decN refT f))∧Ext W w'):=fun W g X o=>fmlTextI _ f W o.nodes hr hl2 (hT.later X) (hE.later X) (hO.later X) (LW.later X) (IT.laterG X) (hM.later X);obtain ⟨Q,hQ⟩:∃ Q,told decN refT f=Q:=⟨_,rfl⟩;rw [hQ] at HGS HGI;obtain ⟨n,hn'⟩:∃ n,f.length=n:=⟨_,rfl⟩;rw [hn'] at HTN HEQ HGS HGI;clear hQ hn' hl ht hd hl1 ht1 hz hl2 hr hx h hT hE hO LW IT hM;go_wp2_with fail;refine (HTN.out w1 e1).mono ?_;rintro e w2 ⟨⟨g2,rfl,_,O2⟩,e2⟩;go_wp2_with fail;refine (HGS.out w2 g2 O2).mono ?_;rintro e w3 ⟨rfl,e3⟩;have X3:=xt (xt e1 e2) e3;clear O2;go_wp2_with fail;refine (HTN.out w3 X3).mono ?_;rintro e w4 ⟨⟨g4,rfl,_,O4⟩,e4⟩;go_wp2_with fail;refine (HGI.out w4 g4 (xt X3 e4) O4).mono ?_;rintro e w5 ⟨rfl,e5⟩;have X5:=xt (xt X3 e4) e5;have O5:=O4.later e5;clear O4;go_wp2_with fail;refine (HTN.out _ (xt X5 (xr _))).mono ?_;rintro e w6 ⟨⟨g6,rfl,_,O6⟩,e6⟩;go_wp2_with fail;refine (HEQ.out w6 g4 g6 (O5.later e6) O6).mono ?_;rintro e w7 ⟨rfl,e7⟩;go_wp2_with fail;go_ret;exact ⟨rfl,xt (xt X5 e6) e7⟩
end Go.Proofs.YtogecaajnjcenaaGreatDoor

