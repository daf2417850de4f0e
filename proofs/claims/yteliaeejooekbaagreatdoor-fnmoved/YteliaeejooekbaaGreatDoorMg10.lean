import Derived.Test.YteliaeejooekbaaGreatDoorMg4
import Derived.Test.YteliaeejooekbaaGreatDoorRt
import Derived.Test.YteliaeejooekbaaGreatDoorMg2
import Derived.Test.YteliaeejooekbaaGreatDoorMg1
import Derived.Deep.RegionHeld3
import Derived.Deep.DeepCutAuto
import Derived.Deep.MidRow
import Derived.Stop.LaidErr
set_option maxRecDepth 100000
set_option maxHeartbeats 2000000
namespace Go.Proofs.YteliaeejooekbaaGreatDoor
open Go.RowKit
def LibW (w:World):Prop:=(∃ m,w.cell? ⟨8,0,none⟩=some (iQ m))/\(∃ tp p,w.var? Tryz.prog "strconv.ErrSyntax" = some #[.iface tp p])/\∃ tp p,w.var? Tryz.prog "strconv.ErrRange" = some #[.iface tp p]
theorem zJS:Tryz.prog.globalNamed "strconv.ErrSyntax" = some 3:=by kernel_rfl
theorem zO9:Tryz.prog.globalNamed "strconv.ErrRange" = some 4:=by kernel_rfl
theorem zQY {w:World} {n:String} {g:Nat} {cs:Array Value} (hg:Tryz.prog.globalNamed n=some g) (h:w.var? Tryz.prog n=some cs):g<w.heap.size:=by
 unfold World.var? at h;simp only [hg,Option.bind_some] at h;by_cases hk:g<w.heap.size
 ·exact hk
 ·rw [Array.getElem?_eq_none (by omega)] at h;cases h
theorem LibW.l {w w':World} (h:LibW w) (x:Ext w w'):LibW w':=by
 obtain ⟨⟨m,a⟩,⟨t1,p1,b⟩,t2,p2,c⟩:=h;exact ⟨⟨m,cell_later x a⟩,⟨t1,p1,var?_below x zJS (zQY zJS b) b⟩,t2,p2,var?_below x zO9 (zQY zO9 c) c⟩
theorem zM2:layCutPrefix_ren.f 103=170:=by kernel_rfl
theorem zT5:layAtoi_ren.f 172=162:=by kernel_rfl
theorem zOC:layTrimLeft_ren.f 161=171:=by kernel_rfl
theorem zEB (l:List UInt8) (b:UInt8) (w:World) :
  Calls Tryz.prog 170 #[.string (bs l),.string ⟨#[b]⟩] w fun e w'=>e=.returned (.tuple #[.string (bs (Lib.trimPrefix l [b])),.bool (Lib.hasPrefix l [b])])/\w'=w:=by
 have h:=Any.strings_CutPrefix layCutPrefix (bs l) ⟨#[b]⟩ w;rw [zM2] at h;exact h
theorem zMF (l:List UInt8) (w:World) :
  Calls Tryz.prog 171 #[.string (bs l),.string ⟨#[65,66,67,68,69,70,71,72,73,74,75,76,77,78,79,80,81,82,83,84,85,86,87,88,89,90]⟩] w fun e w'=>e=.returned (.string (bs (l.dropWhile zAI)))/\Ext w w':=by
 have h:=Any.strings_TrimLeft_laid layTrimLeft (by kernel_rfl) (bs l) ⟨#[65,66,67,68,69,70,71,72,73,74,75,76,77,78,79,80,81,82,83,84,85,86,87,88,89,90]⟩ w (by decide) (ascii_of_all (by decide));rw [zOC] at h;rw [<- zJE];exact h
theorem atoiC (l:List UInt8) (w:World) (hl:l.length<=1048576) (LW:LibW w) :
  Calls Tryz.prog 162 #[.string (bs l)] w fun e w'=>∃ v ev,e=.returned (.tuple #[iQ v,ev])/\((ev=.nilIface/\Lib.atoiAll l=.ok v)\/((∃ T p,ev=.iface T p)/\∀ u,Lib.atoiAll l ≠ .ok u))/\Ext w w':=by
 obtain ⟨_,⟨t1,p1,b⟩,t2,p2,c⟩:=LW;have hs:(bs l).size<=1048576:=by rw [zBG];exact hl
 have e0:(bs l).data.toList=l:=rfl;cases ha:Lib.atoiAll l with
 | ok v =>
  have h:=Any.strconv_Atoi_ok layAtoi (bs l) (by omega) v (by rw [e0];exact ha) w;rw [zT5] at h;refine h.mono fun e w' ⟨he,hw⟩=>⟨v,.nilIface,he,.inl ⟨rfl,rfl⟩,?_⟩
  rcases hw with rfl | ⟨t,rfl⟩
  ·exact xr _
  ·exact Lib.bytesWorld_below _ _ _
 | «syntax» =>
  have h:=Any.strconv_Atoi_syntax_var layAtoi (bs l) (by omega) (by rw [e0];exact ha) t1 p1 w b;rw [zT5] at h;exact h.mono fun e w' ⟨N,he,_,_,hb⟩=>⟨0,_,he,.inr ⟨⟨_,_,rfl⟩,fun u q=>by cases q⟩,hb⟩
 | range =>
  have h:=Any.strconv_Atoi_range_var layAtoi (bs l) (by omega) (by rw [e0];exact ha) t2 p2 w c;rw [zT5] at h;exact h.mono fun e w' ⟨N,he,_,_,hb⟩=>⟨_,_,he,.inr ⟨⟨_,_,rfl⟩,fun u q=>by cases q⟩,hb⟩
theorem zMB (l:List UInt8) (w:World) (hl:l.length<=1048576) (LW:LibW w) :
  Calls Tryz.prog 141 #[.string (bs l)] w fun e w'=>e=.returned (iQ (zC0 l))/\Ext w w':=by
 have AT:=atoiC l w hl LW;clear LW hl;go_enter Tryz.func141,Tryz.ntmps141;go_wp2_with fail;refine AT.mono ?_;rintro e w1 ⟨v,ev,rfl,h | h,e1⟩
 ·obtain ⟨rfl,ha⟩:=h;have hw:Hid (zC0 l=v):=by show _=_;unfold zC0;rw [ha]
  clear AT ha;go_wp2_with fail;go_ret;exact ⟨zAK hw.out.symm,e1⟩
 ·obtain ⟨⟨T,p,rfl⟩,ha⟩:=h;have hw:Hid (zC0 l=0):=by
   show _=_;unfold zC0
   split
   ·rename_i v' h';exact absurd h' (ha v')
   ·rfl
  clear AT ha;go_wp2_with fail;go_ret;exact ⟨zAK hw.out.symm,e1⟩
abbrev arV (r c:Int) (rf cf:Bool) (r' c':Int) (rf' cf':Bool):Value:=.agg #[iQ r,iQ c,.bool rf,.bool cf,iQ r',iQ c',.bool rf',.bool cf']
def zAV (r c r' c':Int):Bool:=zAL r c && zAL r' c'
theorem zKX (r c:Int) (rf cf:Bool) (r' c':Int) (rf' cf':Bool) (w:World) :
  Calls Tryz.prog 45 #[arV r c rf cf r' c' rf' cf'] w fun e w'=>e=.returned (.bool (zAV r c r' c'))/\Ext w w':=by
 have G1:=fun w=>zGJ r c rf cf w;have G2:=fun w=>zGJ r' c' rf' cf' w;have B1:=Vec.made8 w (iQ r) (iQ c) (.bool rf) (.bool cf) (iQ r') (iQ c') (.bool rf') (.bool cf') 43;have X:=x1 w (.cells #[iQ r,iQ c,.bool rf,.bool cf,iQ r',iQ c',.bool rf',.bool cf'] 43);unfold zAV;obtain ⟨p,hp⟩:=nm (zAL r c);obtain ⟨q,hq⟩:=nm (zAL r' c');rw [hp] at G1 ⊢;rw [hq] at G2 ⊢;clear hp hq;go_enter Tryz.func45,Tryz.ntmps45;go_wp2_with fail;refine (G1 _).mono ?_;rintro e w1 ⟨rfl,e1⟩;obtain ⟨⟨⟨a0,a1,a2,a3⟩,a4,a5,a6,a7⟩,_⟩:=(B1.l e1).box8;cases p
 ·go_wp2_with fail;go_ret;exact ⟨rfl,xt X e1⟩
 ·go_wp2_with fail;refine (G2 _).mono ?_;rintro e w2 ⟨rfl,e2⟩;go_wp2_with fail;go_ret;exact ⟨rfl,xt (xt X e1) e2⟩
theorem zO8 (r c:Int) (rf cf:Bool) (r' c':Int) (rf' cf':Bool) (w:World) :
  Calls Tryz.prog 62 #[arV r c rf cf r' c' rf' cf'] w fun e w'=>e=.returned (.bool (zAV r c r' c'))/\Ext w w':=by
 have G1:=fun w=>zCJ r c rf cf w;have G2:=fun w=>zCJ r' c' rf' cf' w;have B1:=Vec.made8 w (iQ r) (iQ c) (.bool rf) (.bool cf) (iQ r') (iQ c') (.bool rf') (.bool cf') 43;have X:=x1 w (.cells #[iQ r,iQ c,.bool rf,.bool cf,iQ r',iQ c',.bool rf',.bool cf'] 43);unfold zAV;obtain ⟨p,hp⟩:=nm (zAL r c);obtain ⟨q,hq⟩:=nm (zAL r' c');rw [hp] at G1 ⊢;rw [hq] at G2 ⊢;clear hp hq;go_enter Tryz.func62,Tryz.ntmps62;go_wp2_with fail;refine (G1 _).mono ?_;rintro e w1 ⟨rfl,e1⟩;obtain ⟨⟨⟨a0,a1,a2,a3⟩,a4,a5,a6,a7⟩,_⟩:=(B1.l e1).box8;cases p
 ·go_wp2_with fail;go_ret;exact ⟨rfl,xt X e1⟩
 ·go_wp2_with fail;refine (G2 _).mono ?_;rintro e w2 ⟨rfl,e2⟩;go_wp2_with fail;go_ret;exact ⟨rfl,xt (xt X e1) e2⟩
theorem zDF (l:List UInt8) (a b:Nat):(bs l).extract a b=bs ((l.drop a).take (b - a)):=by
 refine zOS ?_;simp [ByteArray.data_extract,zCF]
theorem zMQ (R:List UInt8):R.take (R.length - (R.dropWhile zAI).length)=R.takeWhile zAI/\R.drop (R.length - (R.dropWhile zAI).length)=R.dropWhile zAI:=by
 have h:R.takeWhile zAI++R.dropWhile zAI=R:=List.takeWhile_append_dropWhile;have hl:R.length - (R.dropWhile zAI).length=(R.takeWhile zAI).length:=by
  have:=congrArg List.length h;simp only [List.length_append] at this;omega
 rw [hl];have h1:(R.takeWhile zAI++R.dropWhile zAI).take (R.takeWhile zAI).length=R.takeWhile zAI:=List.take_left' rfl;have h2:(R.takeWhile zAI++R.dropWhile zAI).drop (R.takeWhile zAI).length=R.dropWhile zAI:=List.drop_left' rfl;rw [h] at h1 h2;exact ⟨h1,h2⟩
theorem zR7 {l:List UInt8} {r c:Int} {rf cf:Bool} (hg:zDH r c) (e:refL r c rf cf=l) :
  zC0 (Lib.trimPrefix ((Lib.trimPrefix l [36]).dropWhile zAI) [36])=r/\colV ((Lib.trimPrefix l [36]).takeWhile zAI)=c/\Lib.hasPrefix ((Lib.trimPrefix l [36]).dropWhile zAI) [36]=rf/\Lib.hasPrefix l [36]=cf:=by
 obtain ⟨rest,num0,a1,a2,a3,a4,a5,a6,a7,a8⟩:=zIC (rf:=rf) (cf:=cf) hg;rw [e] at a1 a2;obtain ⟨⟨r1,r2⟩,c1,c2⟩:=hg;rw [a1,a3,a4,a8,a7,a2];refine ⟨zLB (by omega) (by omega),?_,rfl,rfl⟩;rw [zAM,if_pos ⟨c1,c2⟩];exact zOM c1 c2
theorem zPM (l:List UInt8) (w:World) (hl:l.length<=1048576) (LW:LibW w) {w0:World} (IT:zBY w0) (X0:Ext w0 w) :
  Calls Tryz.prog 158 #[.string (bs l)] w fun e w'=>∃ ok r c rf cf,e=.returned (.tuple #[refV r c rf cf,.bool ok])/\zE5 l ok r c rf cf/\Ext w w':=by
 have PA:=fun r c rf cf (hg:zDH r c) (e:refL r c rf cf=l)=>zR7 hg e;obtain ⟨R,hR⟩:=nm (Lib.trimPrefix l [36]);have hRl:R.length<=l.length:=by
  rw [<- hR];unfold Lib.trimPrefix
  split
  ·simp
  ·exact Nat.le_refl _
 obtain ⟨s1,s2⟩:=zMQ R;obtain ⟨D,hD⟩:=nm (R.dropWhile zAI);have hDl:D.length<=R.length:=by rw [<- hD];exact (List.dropWhile_sublist _).length_le
 rw [hD] at s1 s2;obtain ⟨M,hM⟩:=nm (R.takeWhile zAI);rw [hM] at s1;have hMl:M.length<=R.length:=by rw [<- hM];exact (List.takeWhile_sublist _).length_le
 obtain ⟨U,hU⟩:=nm (Lib.trimPrefix D [36]);have hUl:U.length<=D.length:=by
  rw [<- hU];unfold Lib.trimPrefix
  split
  ·simp
  ·exact Nat.le_refl _
 obtain ⟨cf,hcf⟩:=nm (Lib.hasPrefix l [36]);obtain ⟨rf,hrf⟩:=nm (Lib.hasPrefix D [36]);obtain ⟨row,hrow⟩:=nm (zC0 U);obtain ⟨col,hcol⟩:=nm (colV M);have HP:Hid (∀ r' c' rf' cf',zDH r' c'->refL r' c' rf' cf'=l->row=r'/\col=c'/\rf=rf'/\cf=cf'):=fun r' c' rf' cf' hg e=>by
  have h:=PA r' c' rf' cf' hg e;rw [hR,hD,hM,hU,hrow,hcol,hrf,hcf] at h;exact h
 have C1:=fun w=>zEB l 36 w;rw [hR,hcf] at C1;have C2:=fun w=>zMF R w;rw [hD] at C2;have C3:=fun w=>zEB D 36 w;rw [hU,hrf] at C3;have C4:∀ w',LibW w'->Calls Tryz.prog 141 #[.string (bs U)] w' fun e w''=>e=.returned (iQ row)/\Ext w' w'':=fun w' h=>by
  have:=zMB U w' (by omega) h
  rwa [hrow] at this
 have C5:∀ w',Calls Tryz.prog 172 #[.string (bs M)] w' fun e w''=>e=.returned (iQ col)/\w''=w':=fun w'=>by
  have:=zTM (bs M) M w' (zCF M) (by rw [zBG];omega)
  rwa [hcol] at this
 obtain ⟨n,hn⟩:∃ n:Nat,R.length - D.length=n:=⟨_,rfl⟩;rw [hn] at s1 s2;have HX1:(bs R).extract 0 n=bs M:=by rw [zDF];simp [s1]
 obtain ⟨LR,hLR⟩:=nm (R.length);obtain ⟨LD,hLD⟩:=nm (D.length);obtain ⟨LM,hLM⟩:=nm (M.length);have hMn:LM=n:=by
  rw [<- hLM,<- s1,List.length_take];omega
 have HX2:(bs R).extract n LR=bs D:=by
  rw [zDF,s2,List.take_of_length_le (by omega)]
 have zR:(bs R).size=LR:=by rw [zBG,hLR]
 have zD:(bs D).size=LD:=by rw [zBG,hLD]
 have zM:(bs M).size=n:=by rw [zBG,hLM,hMn]
 have hi:(LR:Int) - (LD:Int)=(n:Int):=by omega
 have hnR:(n:Int)<=(LR:Int):=by omega
 have n0:(0:Int)<=(n:Int):=by omega
 have LR20:(LR:Int)<=1048576:=by omega
 have LD20:(LD:Int)<=1048576:=by omega
 have B2:=Box4.made w (iQ 0) (iQ 0) (.bool false) (.bool false) 26;have X:=x1 w (.cells #[iQ 0,iQ 0,.bool false,.bool false] 26);clear PA hR hD hM hU hcf hrf hrow hcol s1 s2 hn hLR hLD hLM hMn hRl hDl hMl hUl;go_enter Tryz.func158,Tryz.ntmps158;go_wp2_with fail;refine (C1 _).mono ?_;rintro e w1 ⟨rfl,rfl⟩;go_wp2_with fail;refine (C2 _).mono ?_;rintro e w2 ⟨rfl,e2⟩;have B2:=B2.l e2;have X:=xt X e2;clear C1 C2 e2;go_wp2_with fail;refine (C3 _).mono ?_;rintro e w1 ⟨rfl,rfl⟩;clear C3;go_wp2_with fail;refine (C4 _ (LW.l X)).mono ?_;rintro e w3 ⟨rfl,e3⟩;have B2:=B2.l e3;have X:=xt X e3;clear C4 e3;go_wp2_with fail;refine (C5 _).mono ?_;rintro e w1 ⟨rfl,rfl⟩;clear C5 HX1 HX2 zR zD zM hi hnR n0 LR20 LD20;have P:=Box4.made w1 (iQ row) (iQ col) (.bool rf) (.bool cf) 26;have x4:=x1 w1 (.cells #[iQ row,iQ col,.bool rf,.bool cf] 26);have B2:=B2.l x4;have X:=xt X x4;clear x4;go_wp2_with fail;refine (zGJ _ _ _ _ _).mono ?_;rintro e w5 ⟨rfl,e5⟩;have P:=P.l e5;have B2:=B2.l e5;have X:=xt X e5;clear e5;obtain ⟨⟨a0,a1,a2,a3⟩,_⟩:=P;by_cases hg:zDH row col
 ·rw [(zBP row col).2 hg];go_wp2_with fail;refine (zPK row col rf cf _ IT (xt X0 X)).mono ?_;rintro e w6 ⟨rfl,e6⟩;have HT:Hid (refT row col rf cf=refL row col rf cf):=by show _=_;unfold refT;rw [if_pos hg]
  rw [HT.out];have B2:=B2.l e6;have X:=xt X e6;have a0:=cell_later e6 a0;have a1:=cell_later e6 a1;have a2:=cell_later e6 a2;have a3:=cell_later e6 a3;clear e6;obtain ⟨⟨m0,m1,m2,m3⟩,f0,f1,f2,f3⟩:=B2;by_cases he:refL row col rf cf=l
  ·have HO:Hid (zE5 l true row col rf cf):=.inl ⟨rfl,hg,he⟩;rw [he];clear hg he HP HT;go_wp2_with fail;exact bodyPost_ret (v:=.tuple #[refV row col rf cf,.bool true]) (by simp [results,Tryz.results158,go_sem,m0,m1,m2,m3]) rfl ⟨true,row,col,rf,cf,rfl,HO.out,Ext.set4 (o:=0) X (Nat.le_refl _) _ _ _ _⟩
  ·have HO:Hid (zE5 l false 0 0 false false):=zE5.of_parse HP.out (fun q=>he q.2);have hne:((bs (refL row col rf cf)).toList == (bs l).toList)=false:=zMN (fun q=>he (by have:=congrArg (fun s:ByteArray=>s.data.toList) q;exact this));obtain ⟨s6,hs6⟩:=nm (bs (refL row col rf cf));obtain ⟨s7,hs7⟩:=nm (bs l);rw [hs6,hs7] at hne;rw [hs6,hs7];clear hg he HP HT hs6 hs7;go_wp2_with fail;exact bodyPost_ret (v:=.tuple #[refV 0 0 false false,.bool false]) (by simp [results,Tryz.results158,go_sem,m0,m1,m2,m3]) rfl ⟨false,0,0,false,false,rfl,HO.out,Ext.set4 (o:=0) X (Nat.le_refl _) _ _ _ _⟩
 ·have HO:Hid (zE5 l false 0 0 false false):=zE5.of_parse HP.out (fun q=>hg q.1);have hb:zAL row col=false:=by
   rw [<- Bool.not_eq_true,zBP];exact hg
  rw [hb];obtain ⟨⟨m0,m1,m2,m3⟩,f0,f1,f2,f3⟩:=B2;clear hg hb HP;go_wp2_with fail;exact bodyPost_ret (v:=.tuple #[refV 0 0 false false,.bool false]) (by simp [results,Tryz.results158,go_sem,m0,m1,m2,m3]) rfl ⟨false,0,0,false,false,rfl,HO.out,Ext.set4 (o:=0) X (Nat.le_refl _) _ _ _ _⟩
theorem zMR (P:UInt8->Bool) (R:List UInt8):R.take (R.takeWhile P).length=R.takeWhile P/\R.drop (R.takeWhile P).length=R.dropWhile P:=by
 have h:R.takeWhile P++R.dropWhile P=R:=List.takeWhile_append_dropWhile;have h1:(R.takeWhile P++R.dropWhile P).take (R.takeWhile P).length=R.takeWhile P:=List.take_left' rfl;have h2:(R.takeWhile P++R.dropWhile P).drop (R.takeWhile P).length=R.dropWhile P:=List.drop_left' rfl;rw [h] at h1 h2;exact ⟨h1,h2⟩
theorem zUW (l:List UInt8) (w:World) (hl:l.length<=2000000):Calls Tryz.prog 174 #[.string (bs l)] w fun e w'=>e=.returned (.tuple #[.string (bs (l.takeWhile digC)),.string (bs (l.dropWhile digC))])/\Ext w w':=by
 have EX:=fun a b=>zDF l a b;obtain ⟨s,hs⟩:∃ s:ByteArray,bs l=s:=⟨_,rfl⟩;have hsl:s.data.toList=l:=by rw [<- hs];rfl
 have hsz:=zBJ hsl;rw [hs] at EX ⊢;clear hs;obtain ⟨n,hn⟩:=nm (l.length);have HN:Hid _:=hn;have HS:Hid _:=hsl;rw [hn] at hl hsz;clear hn hsl;have E1:Hid _:=EX;clear EX;go_enter Tryz.func174,Tryz.ntmps174;go_wp2_with fail
 go_loop [4] (fun i=>∃ k:Nat,k<=n/\i=.int .i64 k/\Hid ((l.take k).all digC=true)) (fun i=>n - (intOf i).toNat)
 case atStart=>exact ⟨0,by omega,rfl,by show _=_;simp⟩
 case round =>
  obtain ⟨k,hk,rfl,HA⟩:=hrel;have fin:∀ h:(k=n\/digC (l.getD k 0)=false),Hid (s.extract 0 k=bs (l.takeWhile digC)/\s.extract k n=bs (l.dropWhile digC)):=fun h=>by
   have hr:=zCX digC l k HA.out (by rw [HN.out];exact hk) (by rcases h with h | h;exact .inl (by rw [HN.out];exact h);exact .inr h);obtain ⟨h1,h2⟩:=zMR digC l;rw [hr] at h1 h2;refine ⟨?_,?_⟩
   ·rw [E1.out,Nat.sub_zero,List.drop_zero,h1]
   ·rw [E1.out,h2]
    congr 1
    apply List.take_of_length_le;have:=congrArg List.length h2;rw [List.length_drop,HN.out] at this;omega
  by_cases hlt:k<n
  ·have hks:k<s.size:=by omega
   have hb0:=zB8 HS.out hks;have htk:=zDJ (l:=l) (i:=k) (by rw [HN.out];exact hlt);obtain ⟨c,hcc⟩:=nm (l.getD k 0);rw [hcc] at hb0 htk fin;have hb:((s[k]'hks).toNat:Int)=(c.toNat:Int):=by rw [hb0]
   have i2:(k:Int)<(n:Int):=by omega
   by_cases hc:digC c=true
   ·have hc':48<=c.toNat/\c.toNat<=57:=by
     have:=hc;simp only [digC,digZ,Bool.and_eq_true,decide_eq_true_eq] at this;omega
    have HA2:Hid ((l.take (k+1)).all digC=true):=by
     show _=_;rw [htk,List.all_append,HA.out,List.all_cons,hc];rfl
    obtain ⟨N,hN⟩:∃ N:Int,(c.toNat:Int)=N:=⟨_,rfl⟩;rw [hN] at hb;have n1:48<=N:=(by omega);have n2:N<=57:=(by omega);clear hN hc hc' hb0 htk hcc HA fin;go_wp2_with fail
    go_round
    case rel=>exact ⟨k+1,by omega,by go_num,HA2⟩
    case measure=>simp [intOf];omega
   ·have hc0:digC c=false:=(by simpa using hc);have F:=fin (.inr hc0);have hc':c.toNat<48\/57<c.toNat:=by
     have:=hc;simp only [digC,digZ,Bool.and_eq_true,decide_eq_true_eq] at this;omega
    obtain ⟨N,hN⟩:∃ N:Int,(c.toNat:Int)=N:=⟨_,rfl⟩;rw [hN] at hb;have n1:N<48\/57<N:=(by omega);have i3:(k:Int)<=(n:Int):=(by omega);have i4:(0:Int)<=(k:Int):=(by omega);clear hN hc hc' hb0 htk hcc HA fin hc0
    rcases n1 with n1 | n1
    ·go_wp2_with fail
     go_region
     go_wp2_with fail;exact bodyPost_ret (v:=.tuple #[.string (s.extract 0 k),.string (s.extract k n)]) (by simp [results,Tryz.results174,go_sem]) rfl ⟨by rw [F.out.1,F.out.2],xd (xr _)⟩
    ·have n2:48<=N:=(by omega);go_wp2_with fail
     go_region
     go_wp2_with fail;exact bodyPost_ret (v:=.tuple #[.string (s.extract 0 k),.string (s.extract k n)]) (by simp [results,Tryz.results174,go_sem]) rfl ⟨by rw [F.out.1,F.out.2],xd (xr _)⟩
  ·obtain rfl:k=n:=by omega
   have F:=fin (.inl rfl);have i4:(0:Int)<=(k:Int):=by omega
   clear HA fin;go_wp2_with fail
   go_region
   go_wp2_with fail;exact bodyPost_ret (v:=.tuple #[.string (s.extract 0 k),.string (s.extract k k)]) (by simp [results,Tryz.results174,go_sem]) rfl ⟨by rw [F.out.1,F.out.2],xd (xr _)⟩
theorem zLM (l p:List UInt8):Lib.hasPrefix l p=(decide (p.length<=l.length) && (l.take p.length == p)):=by
 unfold Lib.hasPrefix;by_cases h:p <+: l
 ·have h1:p.isPrefixOf l=true:=List.isPrefixOf_iff_prefix.2 h;have h2:l.take p.length=p:=(List.prefix_iff_eq_take.1 h).symm;rw [h1,h2,decide_eq_true h.length_le];simp
 ·have h1:p.isPrefixOf l=false:=by
   cases hq:p.isPrefixOf l with
   | false=>rfl
   | true=>exact absurd (List.isPrefixOf_iff_prefix.1 hq) h
  rw [h1];symm;rw [Bool.and_eq_false_iff];by_cases hl:p.length<=l.length
  ·right;rw [beq_eq_false_iff_ne];exact fun e=>h (List.prefix_iff_eq_take.2 e.symm)
  ·left;exact decide_eq_false hl
theorem zS9 (l p:List UInt8) (w:World):Calls Tryz.prog 176 #[.string (bs l),.string (bs p)] w fun e w'=>e=.returned (.bool (Lib.hasPrefix l p))/\w'=w:=by
 rw [zLM];have EX:=zDF l 0 p.length;rw [Nat.sub_zero,List.drop_zero] at EX;have z1:(bs l).size=l.length:=zBG l;have z2:(bs p).size=p.length:=zBG p;have tl:(bs (l.take p.length)).toList=l.take p.length:=by rw [ByteArray.toList_eq,zCF]
 have tp:(bs p).toList=p:=by rw [ByteArray.toList_eq,zCF]
 obtain ⟨b,hb⟩:=nm ((l.take p.length == p));have HB:((bs (l.take p.length)).toList == (bs p).toList)=b:=by rw [tl,tp];exact hb
 rw [hb];obtain ⟨s,hs⟩:=nm (bs l);obtain ⟨t,ht⟩:=nm (bs p);obtain ⟨x,hx⟩:=nm (bs (l.take p.length));obtain ⟨n,hn⟩:=nm (l.length);obtain ⟨k,hk⟩:=nm (p.length);rw [hs] at EX z1 ⊢;rw [ht] at z2 HB ⊢;rw [hx] at EX HB;rw [hn] at z1 ⊢;rw [hk] at z2 EX ⊢;clear tl tp hb hs ht hx hn hk;by_cases h:k<=n
 ·have i1:(k:Int)<=(n:Int):=by omega
  have i2:(0:Int)<=(k:Int):=by omega
  rw [decide_eq_true h];cases b
  all_goals
   go_enter Tryz.func176,Tryz.ntmps176;go_wp2_with fail;go_ret
   first | exact ⟨rfl,rfl⟩ | exact ⟨by simp [EX,HB],rfl⟩
 ·have i1:(n:Int)<(k:Int):=by omega
  rw [decide_eq_false h];go_enter Tryz.func176,Tryz.ntmps176;go_wp2_with fail;go_ret;exact ⟨rfl,rfl⟩
theorem zLV (l p:List UInt8) (w:World):Calls Tryz.prog 161 #[.string (bs l),.string (bs p)] w fun e w'=>e=.returned (.bool (Lib.hasPrefix l p))/\w'=w:=by
 have H:=zS9 l p w;go_enter Tryz.func161,Tryz.ntmps161;go_wp2_with fail;refine H.mono ?_;rintro e w1 ⟨rfl,rfl⟩;go_wp2_with fail;go_ret;exact ⟨rfl,rfl⟩
def opsT:List (List UInt8 × Int):=[([60,61],1),([62,61],1),([60,62],1),([60],1),([62],1),([61],1),([38],2),([43],3),([45],3),([42],4),([47],4),([94],5)]
def zBV (l:List UInt8):List UInt8 × Int:=(opsT.find? fun o=>Lib.hasPrefix l o.1).getD ([],0)
theorem zT3 {l:List UInt8} {k:Nat} {o:List UInt8 × Int} (hk:opsT[k]?=some o) (hp:Lib.hasPrefix l o.1=true) (hn:∀ (j:Nat) o,j<k->opsT[j]?=some o->Lib.hasPrefix l o.1=false):zBV l=o:=by
 unfold zBV;have:opsT.find? (fun o=>Lib.hasPrefix l o.1)=some o:=by
  rw [List.find?_eq_some_iff_getElem];obtain ⟨hk1,hk2⟩:=List.getElem?_eq_some_iff.1 hk;refine ⟨hp,k,hk1,hk2,fun j hj=>?_⟩;rw [hn j _ hj (List.getElem?_eq_getElem (Nat.lt_trans hj hk1))];rfl
 rw [this];rfl
theorem zOB {l:List UInt8} (hn:∀ (j:Nat) o,opsT[j]?=some o->Lib.hasPrefix l o.1=false):zBV l=([],0):=by
 unfold zBV;have:opsT.find? (fun o=>Lib.hasPrefix l o.1)=none:=by
  rw [List.find?_eq_none];intro o ho;obtain ⟨j,hj⟩:=List.getElem?_of_mem ho;rw [hn j o hj];decide
 rw [this];rfl
theorem zOY (l:List UInt8):zBV l=([],0)\/memB opsL (zBV l).1=true:=by
 unfold zBV;cases h:opsT.find? (fun o=>Lib.hasPrefix l o.1) with
 | none=>exact .inl rfl
 | some o =>
  right;have:=List.mem_of_find?_eq_some h;have hall:∀ o ∈ opsT,memB opsL o.1=true:=by decide
  exact hall o this
theorem zVZ (l:List UInt8) (h:l ≠ []):((zBV l).1 == l)=memB opsL l:=by
 cases hm:memB opsL l with
 | true =>
  have:l ∈ opsL:=by
   unfold memB at hm;rw [List.any_eq_true] at hm;obtain ⟨t,ht,e⟩:=hm;rw [<- eq_of_beq e];exact ht
  have hall:∀ t ∈ opsL,((zBV t).1 == t)=true:=by decide
  exact hall l this
 | false =>
  rw [beq_eq_false_iff_ne];intro e
  rcases zOY l with h1 | h1
  ·rw [h1] at e;exact h e.symm
  ·rw [e,hm] at h1;cases h1
def opsF:List Value:=[.string ⟨#[60,61]⟩,iQ 1,.string ⟨#[62,61]⟩,iQ 1,.string ⟨#[60,62]⟩,iQ 1,.string ⟨#[60]⟩,iQ 1,.string ⟨#[62]⟩,iQ 1,.string ⟨#[61]⟩,iQ 1,.string ⟨#[38]⟩,iQ 2,.string ⟨#[43]⟩,iQ 3,.string ⟨#[45]⟩,iQ 3,.string ⟨#[42]⟩,iQ 4,.string ⟨#[47]⟩,iQ 4,.string ⟨#[94]⟩,iQ 5]
def zBX (w:World):Prop:=w.rangeAt 2 0 opsF
theorem zBX.l {w w':World} (h:zBX w) (e:Ext w w'):zBX w':=fun i v hv=>cell_later e (h i v hv)
abbrev opV (o:List UInt8 × Int):Value:=.agg #[sV o.1,iQ o.2]
abbrev opsV:Value:=.agg opsF.toArray
theorem zUM (W:World):(Instr.index 195 opsV (iQ 0)).run Tryz.prog W=.ok (opV ([60,61],1)) W:=by kernel_rfl
theorem zUL (W:World):(Instr.index 195 opsV (iQ 1)).run Tryz.prog W=.ok (opV ([62,61],1)) W:=by kernel_rfl
theorem zUK (W:World):(Instr.index 195 opsV (iQ 2)).run Tryz.prog W=.ok (opV ([60,62],1)) W:=by kernel_rfl
theorem zUJ (W:World):(Instr.index 195 opsV (iQ 3)).run Tryz.prog W=.ok (opV ([60],1)) W:=by kernel_rfl
theorem zUI (W:World):(Instr.index 195 opsV (iQ 4)).run Tryz.prog W=.ok (opV ([62],1)) W:=by kernel_rfl
theorem zUH (W:World):(Instr.index 195 opsV (iQ 5)).run Tryz.prog W=.ok (opV ([61],1)) W:=by kernel_rfl
theorem zUG (W:World):(Instr.index 195 opsV (iQ 6)).run Tryz.prog W=.ok (opV ([38],2)) W:=by kernel_rfl
theorem zUF (W:World):(Instr.index 195 opsV (iQ 7)).run Tryz.prog W=.ok (opV ([43],3)) W:=by kernel_rfl
theorem zUE (W:World):(Instr.index 195 opsV (iQ 8)).run Tryz.prog W=.ok (opV ([45],3)) W:=by kernel_rfl
theorem zUD (W:World):(Instr.index 195 opsV (iQ 9)).run Tryz.prog W=.ok (opV ([42],4)) W:=by kernel_rfl
theorem zSF (W:World):(Instr.index 195 opsV (iQ 10)).run Tryz.prog W=.ok (opV ([47],4)) W:=by kernel_rfl
theorem zSE (W:World):(Instr.index 195 opsV (iQ 11)).run Tryz.prog W=.ok (opV ([94],5)) W:=by kernel_rfl
theorem zW0 (k:Nat) (hk:k<12):∃ o,opsT[k]?=some o/\∀ W:World,(Instr.index 195 opsV (iQ k)).run Tryz.prog W=.ok (opV o) W:=by
 match k,hk with
 | 0,_=>exact ⟨_,rfl,zUM⟩
 | 1,_=>exact ⟨_,rfl,zUL⟩
 | 2,_=>exact ⟨_,rfl,zUK⟩
 | 3,_=>exact ⟨_,rfl,zUJ⟩
 | 4,_=>exact ⟨_,rfl,zUI⟩
 | 5,_=>exact ⟨_,rfl,zUH⟩
 | 6,_=>exact ⟨_,rfl,zUG⟩
 | 7,_=>exact ⟨_,rfl,zUF⟩
 | 8,_=>exact ⟨_,rfl,zUE⟩
 | 9,_=>exact ⟨_,rfl,zUD⟩
 | 10,_=>exact ⟨_,rfl,zSF⟩
 | 11,_=>exact ⟨_,rfl,zSE⟩
theorem Vec.made2 (w:World) (v0 v1:Value) (t:TypeId):Vec (w.alloc (.cells #[v0,v1] t)) w.heap.size [v0,v1]:=zA5 w [v0,v1] t
theorem zRK (l:List UInt8) (w:World) (hO:zBX w):Calls Tryz.prog 140 #[.string (bs l)] w fun e w'=>e=.returned (opV (zBV l))/\Ext w w':=by
 have HF:Hid (∀ (k:Nat) o,opsT[k]?=some o->Lib.hasPrefix l o.1=true->(∀ (j:Nat) o,j<k->opsT[j]?=some o->Lib.hasPrefix l o.1=false)->zBV l=o):=fun k o h1 h2 h3=>zT3 h1 h2 h3;have HX:Hid ((∀ (j:Nat) o,opsT[j]?=some o->Lib.hasPrefix l o.1=false)->zBV l=([],0)):=fun h=>zOB h;obtain ⟨R,hR⟩:=nm (zBV l);rw [hR] at HF HX ⊢;clear hR;have X0:=x1 w (.cells #[.string ⟨#[]⟩,iQ 0] 176);have V0:Hid (Vec (w.alloc (.cells #[.string ⟨#[]⟩,iQ 0] 176)) w.heap.size [.string ⟨#[]⟩,iQ 0]):=Vec.made2 w _ _ _;have hO':=hO.l X0;have hr131:w.rangeAt 2 0 opsF:=hO;have hr':(w.alloc (.cells #[.string ⟨#[]⟩,iQ 0] 176)).rangeAt 2 0 opsF:=hO';clear hO hO' hr131;go_enter Tryz.func140,Tryz.ntmps140;go_wp2_with (refine wpList_load_mid rfl _ _ rfl 2 0 rfl opsF _ hr' Tryz.underlying195 rfl (by kernel_rfl) ?_);clear hr';go_loopw [6] (fun i wr=>∃ k:Nat,k<=12/\i=.int .i64 k/\Hid (∀ (j:Nat) o,j<k->opsT[j]?=some o->Lib.hasPrefix l o.1=false)/\Hid (Vec wr w.heap.size [.string ⟨#[]⟩,.int .i64 0])/\Ext w wr) (fun i _=>12 - (intOf i).toNat)
 case atStart=>exact ⟨0,by omega,rfl,(fun j o hj=>by omega),V0,X0⟩
 case round =>
  obtain ⟨k,hk,rfl,HA,HV,X⟩:=hrel;by_cases hlt:k<12
  ·obtain ⟨o,ho,hix⟩:=zW0 k hlt;obtain ⟨t,lev⟩:=o;have i2:(k:Int)<12:=by omega
   have P:=fun w=>zLV l t w;obtain ⟨p,hp⟩:=nm (Lib.hasPrefix l t);rw [hp] at P;have P:∀ w,Calls Tryz.prog 161 #[.string (bs l),sV t] w fun e w'=>e=.returned (.bool p)/\w'=w:=P;have V1:=Vec.made2 wr (sV t) (iQ lev) 176;have X1:=x1 wr (.cells #[sV t,iQ lev] 176);obtain ⟨w1,h1⟩:=nm (wr.alloc (.cells #[sV t,iQ lev] 176));rw [h1] at V1 X1;have VR:=HV.out.l X1;have X2:=xt X X1;have c0:=vC2 V1;obtain ⟨b0,f0⟩:=VR 0 _ rfl;obtain ⟨b1,f1⟩:=VR 1 _ rfl;cases p
   ·have HA2:Hid (∀ (j:Nat) o,j<k+1->opsT[j]?=some o->Lib.hasPrefix l o.1=false):=fun j o hj h=>by
     rcases Nat.lt_or_ge j k with hjk | hjk
     ·exact HA.out j o hjk h
     ·obtain rfl:j=k:=(by omega);rw [ho] at h;cases h;exact hp
    have HV2:Hid _:=VR;clear HA HV VR V1 X X1 ho hp;go_wp2_with fail;refine (P _).mono ?_;rintro e w2 ⟨rfl,h2⟩;rw [h2];clear h2;go_wp2_with fail;go_roundw
    case rel=>exact ⟨k+1,by omega,by go_num,HA2,HV2,X2⟩
    case measure=>simp [intOf];omega
   ·have hr:=HF.out k (t,lev) ho hp HA.out;subst hr;have VP:=(VR.put 0 (by simp) (sV t)).put 1 (by simp) (iQ lev);have XP:=xset (p:=⟨w.heap.size,1,none⟩) (xset (p:=⟨w.heap.size,0,none⟩) X2 (Nat.le_refl _) (sV t)) (Nat.le_refl _) (iQ lev);clear HA HV VR V1 X X1 ho hp HF HX;go_wp2_with fail;refine (P _).mono ?_;rintro e w2 ⟨rfl,h2⟩;rw [h2];clear h2;go_wp2_with fail;have d0:=vC2 VP;exact bodyPost_ret (v:=opV (t,lev)) (by simp [results,Tryz.results140,go_sem,d0]) rfl ⟨rfl,XP⟩
  ·obtain rfl:k=12:=by omega
   have hr:=HX.out (fun j o h=>HA.out j o (by have:=(List.getElem?_eq_some_iff.1 h).1;simpa [opsT] using this) h);subst hr;obtain ⟨b0,f0⟩:=HV.out 0 _ rfl;obtain ⟨b1,f1⟩:=HV.out 1 _ rfl;have VP:=(HV.out.put 0 (by simp) (.string ⟨#[]⟩)).put 1 (by simp) (iQ 0);have XP:=xset (p:=⟨w.heap.size,1,none⟩) (xset (p:=⟨w.heap.size,0,none⟩) X (Nat.le_refl _) (.string ⟨#[]⟩)) (Nat.le_refl _) (iQ 0);clear HA HF HX HV;go_wp2_with fail;have d0:=vC2 VP;exact bodyPost_ret (v:=opV ([],0)) (by simp [results,Tryz.results140,go_sem,d0]) rfl ⟨rfl,XP⟩
end Go.Proofs.YteliaeejooekbaaGreatDoor
namespace Go.Proofs.YteliaeejooekbaaGreatDoor
open Go.ChangeShapes Go.WideShapes Go.ChangeAt Go.RowKit
theorem gOps:Tryz.prog.globalNamed "loop.example/g00025/impl.operators" = some 2:=by kernel_rfl
theorem zKY:(Tryz.prog.globals[2]?).map (·.type)=some 195:=by kernel_rfl
theorem zSH:Tryz.prog.cellsOf 176=2:=by kernel_rfl
theorem zO2:Tryz.prog.cellsOf 3=1:=by kernel_rfl
theorem zN1:∃ fs:Array Field,Tryz.prog.underlying 176=some (.struct fs)/\∃ f0 f1,fs.toList[0]?=some f0/\fs.toList[1]?=some f1/\(f0.type=9/\f0.offset=0)/\(f1.type=3/\f1.offset=1):=
 ⟨_,Tryz.underlying176,_,_,rfl,rfl,⟨rfl,rfl⟩,⟨rfl,rfl⟩⟩
theorem zO1 {H:Type} {enc:TypeId × Value->H} {w:World} {base:Nat} {sp:Nat->Bool} {held:Bool} {fuel:Nat} {cs:List Value} {z:Int} {p:List MemPlace} (o:Nat)
  (h:DataW.trod enc Tryz.prog w base sp held fuel 3 ((cs.drop o).take 1)=some (.lit (.int .i64 z),p)):cs[o]?=some (iQ z):=by
 obtain ⟨n,hc,hx,_⟩:=DataW.trod_int Tryz.underlying3 h;simp only [Prod.mk.injEq,DataW.lit.injEq,Lit.int.injEq,true_and] at hx;have:=congrArg (·[0]?) hc;simp only [List.getElem?_take,List.getElem?_drop,List.getElem?_cons_zero] at this;simpa [hx.1] using this
theorem zMO {H:Type} {enc:TypeId × Value->H} {w:World} {base:Nat} {sp:Nat->Bool} {held:Bool} {fuel:Nat} {cs:List Value} {l:List UInt8} {p:List MemPlace} (o:Nat)
  (h:DataW.trod enc Tryz.prog w base sp held fuel 9 ((cs.drop o).take 1)=some (.lit (.string l),p)):cs[o]?=some (sV l):=by
 obtain ⟨s,hc,hx,_⟩:=DataW.trod_string Tryz.underlying9 h;simp only [Prod.mk.injEq,DataW.lit.injEq,Lit.string.injEq] at hx;have:=congrArg (·[0]?) hc;simp only [List.getElem?_take,List.getElem?_drop,List.getElem?_cons_zero] at this;have hs:s=⟨l.toArray⟩:=by
  cases s;rw [hx.1]
 rw [hs] at this;simpa using this
theorem zBM {H:Type} {enc:TypeId × Value->H} {w:World} {base:Nat} {sp:Nat->Bool} {held:Bool} {fuel:Nat} {cs:List Value} {l:List UInt8} {b:Int} {p:List MemPlace}
  (h:DataW.trod enc Tryz.prog w base sp held fuel 176 cs=some (.agg [.lit (.string l),.lit (.int .i64 b)],p)):cs[0]?=some (sV l)/\cs[1]?=some (iQ b):=by
 obtain ⟨fs,ht,f0,f1,e0,e1,⟨t0,o0⟩,⟨t1,o1⟩⟩:=zN1;obtain ⟨_,_,k0⟩:=zH0 ht h 0 f0 e0 _ rfl;obtain ⟨_,_,k1⟩:=zH0 ht h 1 f1 e1 _ rfl;rw [t0,o0,zI5] at k0;rw [t1,o1,zO2] at k1;exact ⟨zMO 0 k0,zO1 1 k1⟩
theorem zUC {rest:List (String × DataW Unit)} {W:World} (h:laidMet Tryz.prog (("loop.example/g00025/impl.operators", Rows.laid_loop_example_g00025_impl_operators) :: rest) W):zBX W:=by
 obtain ⟨ps,⟨g',t',cs,fuel,p,q,hg',ht',hvar,hd,_,_⟩,_⟩:=h;obtain rfl:=Option.some.inj (gOps.symm.trans hg');obtain rfl:=Option.some.inj (zKY.symm.trans ht');have C:=fun i v (h:cs[i]?=some v)=>(World.var?_cell gOps hvar i).trans (by simpa using h);obtain ⟨_,_,k0⟩:=zAJ Tryz.underlying195 hd 0 (by decide) _ rfl;obtain ⟨_,_,k1⟩:=zAJ Tryz.underlying195 hd 1 (by decide) _ rfl;obtain ⟨_,_,k2⟩:=zAJ Tryz.underlying195 hd 2 (by decide) _ rfl;obtain ⟨_,_,k3⟩:=zAJ Tryz.underlying195 hd 3 (by decide) _ rfl;obtain ⟨_,_,k4⟩:=zAJ Tryz.underlying195 hd 4 (by decide) _ rfl;obtain ⟨_,_,k5⟩:=zAJ Tryz.underlying195 hd 5 (by decide) _ rfl;obtain ⟨_,_,k6⟩:=zAJ Tryz.underlying195 hd 6 (by decide) _ rfl;obtain ⟨_,_,k7⟩:=zAJ Tryz.underlying195 hd 7 (by decide) _ rfl;obtain ⟨_,_,k8⟩:=zAJ Tryz.underlying195 hd 8 (by decide) _ rfl;obtain ⟨_,_,k9⟩:=zAJ Tryz.underlying195 hd 9 (by decide) _ rfl;obtain ⟨_,_,k10⟩:=zAJ Tryz.underlying195 hd 10 (by decide) _ rfl;obtain ⟨_,_,k11⟩:=zAJ Tryz.underlying195 hd 11 (by decide) _ rfl;rw [zSH] at k0 k1 k2 k3 k4 k5 k6 k7 k8 k9 k10 k11;obtain ⟨a0,b0⟩:=zBM k0;obtain ⟨a1,b1⟩:=zBM k1;obtain ⟨a2,b2⟩:=zBM k2;obtain ⟨a3,b3⟩:=zBM k3;obtain ⟨a4,b4⟩:=zBM k4;obtain ⟨a5,b5⟩:=zBM k5;obtain ⟨a6,b6⟩:=zBM k6;obtain ⟨a7,b7⟩:=zBM k7;obtain ⟨a8,b8⟩:=zBM k8;obtain ⟨a9,b9⟩:=zBM k9;obtain ⟨a10,b10⟩:=zBM k10;obtain ⟨a11,b11⟩:=zBM k11;simp only [List.getElem?_take,List.getElem?_drop] at a0 b0 a1 b1 a2 b2 a3 b3 a4 b4 a5 b5 a6 b6 a7 b7 a8 b8 a9 b9 a10 b10 a11 b11;intro i z hz
 match i,hz with
 | 0,hz=>cases hz;exact C 0 _ (by simpa using a0)
 | 1,hz=>cases hz;exact C 1 _ (by simpa using b0)
 | 2,hz=>cases hz;exact C 2 _ (by simpa using a1)
 | 3,hz=>cases hz;exact C 3 _ (by simpa using b1)
 | 4,hz=>cases hz;exact C 4 _ (by simpa using a2)
 | 5,hz=>cases hz;exact C 5 _ (by simpa using b2)
 | 6,hz=>cases hz;exact C 6 _ (by simpa using a3)
 | 7,hz=>cases hz;exact C 7 _ (by simpa using b3)
 | 8,hz=>cases hz;exact C 8 _ (by simpa using a4)
 | 9,hz=>cases hz;exact C 9 _ (by simpa using b4)
 | 10,hz=>cases hz;exact C 10 _ (by simpa using a5)
 | 11,hz=>cases hz;exact C 11 _ (by simpa using b5)
 | 12,hz=>cases hz;exact C 12 _ (by simpa using a6)
 | 13,hz=>cases hz;exact C 13 _ (by simpa using b6)
 | 14,hz=>cases hz;exact C 14 _ (by simpa using a7)
 | 15,hz=>cases hz;exact C 15 _ (by simpa using b7)
 | 16,hz=>cases hz;exact C 16 _ (by simpa using a8)
 | 17,hz=>cases hz;exact C 17 _ (by simpa using b8)
 | 18,hz=>cases hz;exact C 18 _ (by simpa using a9)
 | 19,hz=>cases hz;exact C 19 _ (by simpa using b9)
 | 20,hz=>cases hz;exact C 20 _ (by simpa using a10)
 | 21,hz=>cases hz;exact C 21 _ (by simpa using b10)
 | 22,hz=>cases hz;exact C 22 _ (by simpa using a11)
 | 23,hz=>cases hz;exact C 23 _ (by simpa using b11)
theorem zIH:∀ g t,Tryz.prog.globalNamed "loop.example/g00025/impl.operators" = some g->(Tryz.prog.globals[g]?).map (·.type)=some t->Tryz.prog.readableRec t=true/\t<Tryz.prog.types.size:=by
 intro g t hg ht;obtain rfl:=Option.some.inj (gOps.symm.trans hg);obtain rfl:=Option.some.inj (zKY.symm.trans ht);exact ⟨by kernel_rfl,of_decide_eq_true (by kernel_rfl)⟩
end Go.Proofs.YteliaeejooekbaaGreatDoor
namespace Go.Proofs.YteliaeejooekbaaGreatDoor
open Go.ChangeShapes Go.WideShapes Go.ChangeAt Go.RowKit
abbrev areaV (r c:Int) (rf cf:Bool) (r' c':Int) (rf' cf':Bool):Value:=.agg #[iQ r,iQ c,.bool rf,.bool cf,iQ r',iQ c',.bool rf',.bool cf']
end Go.Proofs.YteliaeejooekbaaGreatDoor
namespace Go.Proofs.YteliaeejooekbaaGreatDoor
open Go.ChangeShapes Go.WideShapes Go.ChangeAt Go.RowKit
theorem zLZ:(Tryz.prog.globals[5]?).map (·.type)=some 192:=by kernel_rfl
theorem zPQ {rest:List (String × DataW Unit)} {W:World} (h:laidMet Tryz.prog (("internal/strconv.uint64pow10", Rows.laid_internal_strconv_uint64pow10) :: rest) W):Lib.TabIs Tryz.prog W "internal/strconv.uint64pow10" .u64 Lib.pow10Tab:=
 Lib.tabIs_of_head (rest:=rest) zOA zLZ Tryz.underlying192 Tryz.underlying55 (by kernel_rfl) (by kernel_rfl) h
end Go.Proofs.YteliaeejooekbaaGreatDoor
namespace Go.Proofs.YteliaeejooekbaaGreatDoor
open Go.ChangeShapes Go.WideShapes Go.ChangeAt Go.RowKit
theorem zIQ {P:Program} {w:World} {g:Nat} {t:TypeId} {zero:Array Value} (h:w.ShapedOpen P) (hg:g<P.globals.size)
  (h0:((begin P (fun _ _=>0) default).world.heap[g]?).bind Obj.row?=some (zero,t)) (hz:zero.size=1)
  (hb:P.buildable t=true) (hc:P.cellTypes P.depth t=some [t]) (hu:P.underlying t=some (.int .i64)):∃ m,w.cell? ⟨g,0,none⟩=some (iQ m):=by
 obtain ⟨cs,hh,hs,hr⟩:=h.1 g zero t hg h0;obtain ⟨ts,hts,_,hall⟩:=hr hb;rw [hc] at hts;cases hts;have h1:0<cs.size:=by omega
 obtain ⟨u,hu',hok⟩:=hall 0 cs[0] (by simp [h1]);have:u=t:=by simpa using hu'.symm
 subst this;have hcell:w.cell? ⟨g,0,none⟩=some cs[0]:=by simp [World.cell?,hh,h1]
 rw [hcell];unfold Cell.ok at hok;rw [hu] at hok;cases hv:cs[0] <;> rw [hv] at hok <;> first | exact ⟨_,by rw [hok.1]⟩ | simp at hok
theorem zNI {W:World} (h:W.ShapedOpen Tryz.prog):∃ m,W.cell? ⟨8,0,none⟩=some (iQ m):=
 zIQ (t:=3) (zero:=#[iQ 0]) h (of_decide_eq_true (by kernel_rfl)) (by kernel_rfl) rfl (by kernel_rfl) (by kernel_rfl) Tryz.underlying3
theorem zMP : "*" ++ "errors.errorString" = "*errors.errorString" := by decide
theorem zR3 (u:TypeId) (h:Tryz.prog.typeName? 3 u=some "*errors.errorString"):u=247:=
 typeName_ptr_named (nm := "errors.errorString") (by rw [zMP];kernel_rfl) (by kernel_rfl) (by decide) u (by rw [zMP];exact h)
theorem zJR:(Tryz.prog.globals[3]?).map (·.type)=some 198:=by kernel_rfl
theorem zLY:(Tryz.prog.globals[4]?).map (·.type)=some 198:=by kernel_rfl
theorem zMM {rest:List (String × DataW Unit)} {W:World} (h:laidMet Tryz.prog (("strconv.ErrSyntax", Rows.laid_strconv_ErrSyntax) :: rest) W):∃ tp p,W.var? Tryz.prog "strconv.ErrSyntax" = some #[.iface tp p]:=by
 obtain ⟨a0,s0,hv0,-,-,-⟩:=laid_sentinel h zJS zJR Tryz.underlying198 zR3 Tryz.underlying247 Tryz.underlying249 rfl rfl Tryz.underlying9 (by kernel_rfl) (by kernel_rfl);exact ⟨_,_,hv0⟩
theorem zPN {rest:List (String × DataW Unit)} {W:World} (h:laidMet Tryz.prog (("strconv.ErrRange", Rows.laid_strconv_ErrRange) :: rest) W):∃ tp p,W.var? Tryz.prog "strconv.ErrRange" = some #[.iface tp p]:=by
 obtain ⟨a0,s0,hv0,-,-,-⟩:=laid_sentinel h zO9 zLY Tryz.underlying198 zR3 Tryz.underlying247 Tryz.underlying249 rfl rfl Tryz.underlying9 (by kernel_rfl) (by kernel_rfl);exact ⟨_,_,hv0⟩
end Go.Proofs.YteliaeejooekbaaGreatDoor
