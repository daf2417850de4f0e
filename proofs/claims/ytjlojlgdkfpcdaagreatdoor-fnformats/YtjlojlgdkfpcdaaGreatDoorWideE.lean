/-
  The program's numbers of two words, the calls on them: times a power of ten.
-/
import Derived.Test.YtjlojlgdkfpcdaaGreatDoorMg0
import Derived.Deep.RegionHeld3
set_option maxHeartbeats 2000000
set_option maxRecDepth 8000
namespace Go.Proofs.YtjlojlgdkfpcdaaGreatDoor
open Go.RowKit
theorem zP7 {v:Value} {a:Nat} (n:Nat) (hn:n<=38) (w:World) (hv:WV v a) (hT:Tens w) (hlt:a * 10 ^ n<340282366920938463463374607431768211456) :
  Calls Tryz.prog 243 #[v,iQ n] w fun e w'=>∃ v',e=.returned v'/\WV v' (a * 10 ^ n)/\Ext w w':=by
 have hv':=hv;obtain ⟨h,l,rfl,h1,h2,e1⟩:=hv;clear e1;have nt1:¬ w.heap.size+1=1:=by
  obtain ⟨_,_,_,c⟩:=hT.at (i:=0) (by omega);have:=World.block_lt_of_cell? _ _ c;dsimp only at this;omega
 (try simp at nt1)
 have hT2:=hT.l (xa (x1 w (.cells #[.int .u64 h,.int .u64 l] 156)) (.cells #[.int .u64 0,.int .u64 0] 156));by_cases h19:n<=19
 ·obtain ⟨t,et,t1,ct⟩:=hT2.at (i:=n) (by omega);obtain ⟨u,eu,u1,cu⟩:=hT2.at (i:=0) (by omega);have HU:Hid (u=1):=by rw [<- eu];rfl
  have HP:Hid (a * t * u=a * 10 ^ n):=by rw [HU.out,<- et,Nat.mul_one];rfl
  have H1:Hid (a * t<340282366920938463463374607431768211456):=by rw [<- et];exact hlt
  have H2:Hid (a * t * u<340282366920938463463374607431768211456):=by rw [HP.out];exact hlt
  have B:=((Box2.made w (.int .u64 h) (.int .u64 l) 156).l (x1 _ (.cells #[.int .u64 0,.int .u64 0] 156)));have Br:=(Box2.made (w.alloc (.cells #[.int .u64 h,.int .u64 l] 156)) (.int .u64 0) (.int .u64 0) 156);simp only [World.size_alloc] at Br;have hm1:(if (19:Int)<(n:Int) then (19:Int) else (n:Int))=(n:Int):=if_neg (by omega);have hm2:(if (n:Int) - 19<0 then (0:Int) else (n:Int) - 19)=0:=by split <;> omega
  have i0:(0:Int)<=(n:Int):=by omega
  have i1:(n:Int)<20:=by omega
  have hm3:(if (n:Int)<19 then (0:Int) else (n:Int) - 19)=0:=by split <;> omega
  have hw:IntKind.i64.wrap ((n:Int) - 19)=(n:Int) - 19:=by rw [IntKind.wrap_i64];omega
  obtain ⟨⟨q0,q1⟩,_⟩:=B;clear et eu hT hlt hT2;go_enter Tryz.func243,Tryz.ntmps243;go_wp2_with fail;go_region_held3 (fun w'=>(w'.cell? ⟨w.heap.size,0,none⟩=some (.int .u64 h)/\w'.cell? ⟨w.heap.size,1,none⟩=some (.int .u64 l))/\w'.cell? ⟨1,n,none⟩=some (.int .u64 t)/\w'.cell? ⟨1,0,none⟩=some (.int .u64 u)) (go_keep)
   (first
    | (go_at_call_of 252 (Value.int .u64 t);refine (zFH t _ hv' t1 H1.out).mono ?_;rintro e w1 ⟨v1,rfl,hv1,e1⟩;have c1:=cell_later (xt (xd (xr _)) e1) ct;have c2:=cell_later (xt (xd (xr _)) e1) cu;have c3:=cell_later (xt (xd (xr _)) e1) q0;have c4:=cell_later (xt (xd (xr _)) e1) q1)
    | (go_at_call 252;refine (zFH u _ (by assumption) u1 H2.out).mono ?_;rintro e w2 ⟨v2,rfl,hv2,e2⟩;have d1:=cell_later e2 c1;have d2:=cell_later e2 c2;have d3:=cell_later e2 c3;have d4:=cell_later e2 c4;obtain ⟨h',l',rfl,h1',h2',h3'⟩:=hv2;have H3:Hid (h' * 18446744073709551616+l'=a * t * u):=h3';clear h3';have X2:=xt (xt (xd (xr _)) e1) e2;obtain ⟨⟨r0,r1⟩,s0,s1⟩:=Br.l X2))
  all_goals
   go_wp2
   exact bodyPost_ret (v:=.agg #[.int .u64 h',.int .u64 l']) (by simp [results,Tryz.results243,go_sem,r0,r1]) rfl
    ⟨_,rfl,⟨h',l',rfl,h1',h2',H3.out.trans HP.out⟩,xset (xset (xt (xa (x1 _ _) _) X2) (Nat.le_succ _) _) (Nat.le_succ _) _⟩
 ·obtain ⟨j,rfl⟩:∃ j,n=j+19:=⟨n - 19,by omega⟩;obtain ⟨t,et,t1,ct⟩:=hT2.at (i:=19) (by omega);obtain ⟨u,eu,u1,cu⟩:=hT2.at (i:=j) (by omega);have HP:Hid (a * t * u=a * 10 ^ (j+19)):=by rw [<- et,<- eu,Nat.mul_assoc,<- Nat.pow_add,Nat.add_comm 19 j];rfl
  have H2:Hid (a * t * u<340282366920938463463374607431768211456):=by rw [HP.out];exact hlt
  have H1:Hid (a * t<340282366920938463463374607431768211456):=Nat.lt_of_le_of_lt (Nat.le_mul_of_pos_right _ (by rw [<- eu];exact Nat.pow_pos (by decide))) H2.out;have B:=((Box2.made w (.int .u64 h) (.int .u64 l) 156).l (x1 _ (.cells #[.int .u64 0,.int .u64 0] 156)));have Br:=(Box2.made (w.alloc (.cells #[.int .u64 h,.int .u64 l] 156)) (.int .u64 0) (.int .u64 0) 156);simp only [World.size_alloc] at Br;have ej:((j+19:Nat):Int)=(j:Int)+19:=by omega
  rw [ej];have hj:0<j:=by omega
  have hm1:(if (19:Int)<(j:Int)+19 then (19:Int) else (j:Int)+19)=19:=if_pos (by omega);have hm2:(if (j:Int)<0 then (0:Int) else (j:Int))=(j:Int):=if_neg (by omega);have hm3:(if (0:Int)<(j:Int) then (19:Int) else (j:Int)+19)=19:=if_pos (by omega);have hm4:(if 0<j then (19:Int) else (j:Int)+19)=19:=if_pos hj;have i0:(0:Int)<=(j:Int):=by omega
  have i1:(j:Int)<20:=by omega
  have hw:IntKind.i64.wrap (j:Int)=(j:Int):=by rw [IntKind.wrap_i64];omega
  obtain ⟨⟨q0,q1⟩,_⟩:=B;clear et eu hT hlt hT2 ej;go_enter Tryz.func243,Tryz.ntmps243;go_wp2_with fail;go_region_held3 (fun w'=>(w'.cell? ⟨w.heap.size,0,none⟩=some (.int .u64 h)/\w'.cell? ⟨w.heap.size,1,none⟩=some (.int .u64 l))/\w'.cell? ⟨1,19,none⟩=some (.int .u64 t)/\w'.cell? ⟨1,j,none⟩=some (.int .u64 u)) (go_keep)
   (first
    | (go_at_call_of 252 (Value.int .u64 t);refine (zFH t _ hv' t1 H1.out).mono ?_;rintro e w1 ⟨v1,rfl,hv1,e1⟩;have c1:=cell_later (xt (xd (xr _)) e1) ct;have c2:=cell_later (xt (xd (xr _)) e1) cu;have c3:=cell_later (xt (xd (xr _)) e1) q0;have c4:=cell_later (xt (xd (xr _)) e1) q1)
    | (go_at_call 252;refine (zFH u _ (by assumption) u1 H2.out).mono ?_;rintro e w2 ⟨v2,rfl,hv2,e2⟩;have d1:=cell_later e2 c1;have d2:=cell_later e2 c2;have d3:=cell_later e2 c3;have d4:=cell_later e2 c4;obtain ⟨h',l',rfl,h1',h2',h3'⟩:=hv2;have H3:Hid (h' * 18446744073709551616+l'=a * t * u):=h3';clear h3';have X2:=xt (xt (xd (xr _)) e1) e2;obtain ⟨⟨r0,r1⟩,s0,s1⟩:=Br.l X2))
  all_goals
   go_wp2
   exact bodyPost_ret (v:=.agg #[.int .u64 h',.int .u64 l']) (by simp [results,Tryz.results243,go_sem,r0,r1]) rfl
    ⟨_,rfl,⟨h',l',rfl,h1',h2',H3.out.trans HP.out⟩,xset (xset (xt (xa (x1 _ _) _) X2) (Nat.le_succ _) _) (Nat.le_succ _) _⟩
end Go.Proofs.YtjlojlgdkfpcdaaGreatDoor

