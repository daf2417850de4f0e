/-
  Chapter 5: Filled: the law.
-/
import Derived.Test.YtnbagcclckekkaaGreatDoorFil2
import Derived.Test.YtnbagcclckekkaaGreatDoorGs9
namespace Go.Proofs.YtnbagcclckekkaaGreatDoor
open Go.RowKit
theorem fillR_len (rows cols:Int) (f:List NT):(fillR rows cols f).length≤f.length:=by
 unfold fillR rwR
 split
 ·split
  ·rw [List.length_map];exact Nat.le_refl _
  ·exact Nat.zero_le _
 ·exact Nat.zero_le _
theorem OwnN.ltH {w:World} {g:Nat} {l:List NT} (h:OwnN w g l) (h0:l ≠ []):g<w.heap.size:=by
 cases l with
 | nil=>exact absurd rfl h0
 | cons x l=>exact World.block_lt_of_cell? _ _ (h 0 x rfl 0 _ rfl).1
set_option maxRecDepth 8000 in
set_option maxHeartbeats 8000000 in
theorem lawFillF (rows cols:Int) (v:Value) (f:List NT) (w:World) (h:NodesIn w v f) (hl:f.length≤9223372036854775807) (ht:∀ e ∈ f,e.t.length≤9223372036854775807) (hd:∀ e ∈ f,-9223372036854775808≤e.d∧e.d≤9223372036854775807) (hT:Tens w) (hE:ErrTab w) (hO:OpTab w) (LW:LibW w) (IT:ItoaC w) :
  Calls Tryz.prog 4 #[v,.int .i64 rows,.int .i64 cols] w fun e w'=>e=.returned (.bool true)∧Ext w w':=by
 have C0:=szNodes v f 1048576 w h (by omega) (by omega) hl ht;go_enter Tryz.func4,Tryz.ntmps4;go_wp2_with fail;refine C0.mono ?_;rintro e w1 ⟨⟨z,rfl,z0,z1,hz⟩,e1⟩;clear C0;by_cases hn:z<0
 ·clear hz;go_wp2_with fail;go_ret;exact ⟨rfl,e1⟩
 ·obtain ⟨hl1,ht1⟩:=hz (by omega);have hl2:f.length≤1048576:=by omega
  have hr:∀ x ∈ f,x.fits:=fun x hx=>⟨by have:=ht1 x hx;omega,hd x hx⟩;have hx:∀ x ∈ f,x.t.length≤1048576:=fun x hx=>(hr x hx).1;have HTN:Hid (∀ W,Ext w W→Calls Tryz.prog 9 #[v] W fun e w'=>(∃ g,e=.returned (.slice (some ⟨g,0,none⟩) f.length f.length)∧W.heap.size≤g∧OwnN w' g f)∧Ext W w'):=fun W X=>toNodes v f W (h.later X) (by omega);have HEQ:Hid (∀ W g g',OwnN W g f→OwnN W g' f→Calls Tryz.prog 11 #[.slice (some ⟨g,0,none⟩) f.length f.length,.slice (some ⟨g',0,none⟩) f.length f.length] W fun e w'=>e=.returned (.bool true)∧Ext W w'):=fun W g g' o o'=>eqNodes _ _ f W o.nodes o'.nodes (by omega);have HUS:Hid (∀ W g,OwnN W g f→Calls Tryz.prog 14 #[.slice (some ⟨g,0,none⟩) f.length f.length,.int .i64 rows,.int .i64 cols] W fun e w'=>RwPostB (fillR rows cols f) W e w'):=fun W g o=>fillFS rows cols _ f W o.nodes hx;have HUI:Hid (∀ W g,Ext w W→OwnN W g f→Calls Tryz.prog 15 #[.slice (some ⟨g,0,none⟩) f.length f.length,.int .i64 rows,.int .i64 cols] W fun e w'=>RwPostB (fillR rows cols f) W e w'):=fun W g X o=>fillFI rows cols _ f W o.nodes hr hl2 (hT.later X) (hE.later X) (hO.later X) (LW.later X) (IT.laterG X);have HMN:Hid (∀ W g,OwnN W g f→Calls Tryz.prog 12 #[.slice (some ⟨g,0,none⟩) f.length f.length,.int .i64 1] W fun e w'=>e=.returned (.int .i64 ((1+f.length * 14:Nat):Int))∧TurnedIn g (g+1) W w'):=fun W g o=>markNodes g f.length _ 1 W (flat14_len f) o.vec hl2 (by omega) (by omega);have hul:=fillR_len rows cols f;unfold RwPostB at HUS HUI;obtain ⟨l,hL⟩:∃ l,fillR rows cols f=l:=⟨_,rfl⟩;rw [hL] at HUS HUI hul;have hll:l.length≤1048576:=by omega
  have HLF:Hid (0<l.length→f ≠ []):=fun h1 h2=>by rw [h2] at hul;simp at hul;rw [hul] at h1;simp at h1
  have HQN:Hid (∀ W u u',NodesIn W u l→NodesIn W u' l→Calls Tryz.prog 11 #[u,u'] W fun e w'=>e=.returned (.bool true)∧Ext W w'):=fun W u u' a b=>eqNodes u u' l W a b (by omega);have HMB:Hid (∀ W u M b,NodesB W u l.length M b→Calls Tryz.prog 12 #[u,.int .i64 1] W fun e w'=>e=.returned (.int .i64 ((1+l.length * 14:Nat):Int))∧(∃ M,NodesB w' u l.length M b∧MarkedN M 1 l.length)∧TurnedIn b (b+1) W w'):=fun W u M b o=>markNodesB u l.length M b 1 W o hll (by omega) (by omega);have HHB:Hid (∀ W u M b,NodesB W u l.length M b→MarkedN M 1 l.length→Calls Tryz.prog 13 #[u,.int .i64 1] W fun e w'=>e=.returned (.int .i64 ((1+l.length * 14:Nat):Int))∧Ext W w'):=fun W u M b o mk=>heldNodesB u l.length M b 1 W o mk hll (by omega) (by omega);obtain ⟨n,hn'⟩:∃ n,f.length=n:=⟨_,rfl⟩;rw [hn'] at HTN HEQ HUS HUI HMN;obtain ⟨q,hq⟩:∃ q,1+l.length * 14=q:=⟨_,rfl⟩;obtain ⟨r,hrr⟩:∃ r,1+n * 14=r:=⟨_,rfl⟩;rw [hq] at HMB HHB;rw [hrr] at HMN;have hq0:¬ (q:Int)<0:=by omega
  have hr0:¬ (r:Int)<0:=by omega
  clear hL hn' hl ht hd hl1 ht1 hz hl2 hr hx h hT hE hO LW IT hul hll hq hrr;go_wp2_with fail;refine (HTN.out w1 e1).mono ?_;rintro e w2 ⟨⟨g2,rfl,hg2,O2⟩,e2⟩;have X2:=xt e1 e2;go_wp2_with fail;refine (HUS.out w2 g2 O2).mono ?_;rintro e w3 ⟨v3,b3,rfl,U3,hb3,e3⟩;have X3:=xt X2 e3;clear O2 hg2;go_wp2_with fail;refine (HTN.out w3 X3).mono ?_;rintro e w4 ⟨⟨g4,rfl,hg4,O4⟩,e4⟩;have X4:=xt X3 e4;have hs4:Hid (0<l.length→g4<w4.heap.size):=fun h1=>O4.ltH (HLF.out h1);go_wp2_with fail;refine (HUI.out w4 g4 X4 O4).mono ?_;rintro e w5 ⟨v5,b5',rfl,U5',hb5',e5⟩;obtain ⟨b5,U5,hb5⟩:∃ b,NodesB w5 v5 l.length (l.flatMap NT.cells) b∧w4.heap.size≤b:=by
   by_cases h1:0<l.length
   ·exact ⟨b5',U5',(hb5' h1).1⟩
   ·obtain ⟨y1,y2,y3,y4,y5,_⟩:=U5';exact ⟨w4.heap.size,⟨y1,y2,y3,y4,y5,fun h0=>absurd h0 h1⟩,Nat.le_refl _⟩
  clear U5' hb5';have X5:=xt X4 e5;have O5:=O4.later e5;have U35:=(U3.later e4).later e5;have HB:Hid ((0<l.length→b3<g4∧g4<b5)∧w.heap.size≤g4∧w.heap.size≤b5):=by
   have s3:=X3.size;have s4:=X4.size;exact ⟨fun h1=>⟨by have:=(hb3 h1).2;omega,by have:=hs4.out h1;omega⟩,by omega,by omega⟩
  clear O4 U3 hb3 hb5 hs4 hg4;go_wp2_with fail;refine (HQN.out w5 _ _ U5.nodes U35.nodes).mono ?_;rintro e w6 ⟨rfl,e6⟩;have X6:=xt X5 e6;have O6:=O5.later e6;have U56:=U5.later e6;have U36:=U35.later e6;clear O5 U5 U35 X2 X3 X4 X5;go_wp2_with fail;refine (HTN.out w6 X6).mono ?_;rintro e w7 ⟨⟨g7,rfl,_,O7⟩,e7⟩;go_wp2_with fail;refine (HEQ.out w7 g4 g7 (O6.later e7) O7).mono ?_;rintro e w8 ⟨rfl,e8⟩;have X8:=xt (xt X6 e7) e8;have O8:=(O6.later e7).later e8;have U58:=(U56.later e7).later e8;have U38:=(U36.later e7).later e8;clear O6 O7 U56 U36 X6;go_wp2_with fail;refine (HMN.out w8 g4 O8).mono ?_;rintro e w9 ⟨rfl,t9⟩;have X9:=t9.ext w X8 (by have:=HB.out.2.1;omega);have U59:=U58.turned (fun h1=>Or.inr (HB.out.1 h1).2) t9;have U39:=U38.turned (fun h1=>Or.inl (HB.out.1 h1).1) t9;clear O8 U58 U38 X8 t9;go_wp2_with fail;refine (HQN.out w9 _ _ U59.nodes U39.nodes).mono ?_;rintro e w10 ⟨rfl,e10⟩;have X10:=xt X9 e10;have U510:=U59.later e10;have U310:=U39.later e10;clear U59 U39 X9;go_wp2_with fail;refine (HMB.out w10 _ _ b5 U510).mono ?_;rintro e w11 ⟨rfl,⟨M,M11,K11⟩,t11⟩;have X11:=t11.ext w X10 (by have:=HB.out.2.2;omega);have U311:=U310.turned (fun h1=>Or.inl (by have:=HB.out.1 h1;omega)) t11;clear U510 U310 X10 t11;go_wp2_with fail;refine (HHB.out w11 _ M b5 M11 K11).mono ?_;rintro e w12 ⟨rfl,e12⟩;have X12:=xt X11 e12;have M12:=M11.later e12;have U312:=U311.later e12;clear M11 U311 X11;go_wp2_with fail;refine (HTN.out w12 X12).mono ?_;rintro e w13 ⟨⟨g13,rfl,_,O13⟩,e13⟩;have X13:=xt X12 e13;go_wp2_with fail;refine (HUI.out w13 g13 X13 O13).mono ?_;rintro e w14 ⟨v14,b14,rfl,U14,_,e14⟩;have X14:=xt X13 e14;have M14:=(M12.later e13).later e14;have U314:=(U312.later e13).later e14;clear M12 U312 X12 X13 O13;go_wp2_with fail;refine (HQN.out w14 _ _ U14.nodes U314.nodes).mono ?_;rintro e w15 ⟨rfl,e15⟩;have X15:=xt X14 e15;have M15:=M14.later e15;clear M14 U314 U14 X14;go_wp2_with fail;refine (HHB.out w15 _ M b5 M15 K11).mono ?_;rintro e w16 ⟨rfl,e16⟩;go_wp2_with fail;go_ret;exact ⟨rfl,xt X15 e16⟩
end Go.Proofs.YtnbagcclckekkaaGreatDoor

