/- a part of the proofs -/
import Derived.Deep.RegionHeld3
import Derived.Deep.RegionLaw
import Derived.Deep.Cut
import Derived.Test.YtpcgnjolfahacaaGreatPk25
set_option maxRecDepth 100000
set_option maxHeartbeats 40000000
set_option linter.unusedVariables false
set_option linter.unusedSimpArgs false
namespace Go.Proofs.YtpcgnjolfahacaaGreat
open Go.RowKit
def Sm.In (x:Int):Prop:=-2147483648≤x∧x≤2147483647
theorem Gb {x:Int} (h:Sm.In x):Mc.w32 x=x:=by
 obtain⟨a,b⟩:=h;unfold Mc.w32;omega
theorem El (x:Int):Sm.In (Mc.w32 x):=by
 unfold Mc.w32 Sm.In;omega
theorem Sb {x:Int} (h:Sm.In x):x.natAbs≤2147483648:=by obtain⟨a,b⟩:=h;omega
theorem Aem {a b:Int} (ha:Sm.In a) (hb:Sm.In b):-4611686018427387904≤a*b∧a*b≤4611686018427387904:=by
 have h:=Nat.mul_le_mul (Sb ha) (Sb hb);rw[← Int.natAbs_mul]at h;omega
theorem Aej {a b:Int} (ha:Sm.In a):-2147483648≤a.tdiv b∧a.tdiv b≤2147483648:=by
 have h:(a.tdiv b).natAbs≤a.natAbs:=by rw[Int.natAbs_tdiv];exact Nat.div_le_self _ _
 have:=Sb ha;omega
theorem Sm.At.cut {w0:World}{B b1:Nat}{ins s ys:List Int}{ia va:Option Addr}{ic vc rd st:Nat}{c:ByteArray}{w:World} (h:Sm.At w0 B b1 ins ia ic c (s++ys) va vc rd st w) (hn:0<ys.length):Sm.At w0 B b1 ins ia ic c s va vc rd st (w.setCell ⟨B,1,none⟩ (.slice va s.length vc)):=by
 refine⟨?_,?_⟩
 ·have:=h.fr.put 1 (.slice va s.length vc)
  simpa[Sm.cells] using this
 ·have hr:w.ownsRow b1 3 1 (.slice va (s++ys).length vc) (s++ys).length (s.map (Value.int .i64)++ys.map (Value.int .i64)):=by
   have:=h.row;unfold IntsAt at this
   rwa [List.map_append]at this
  have hc:IntsAt w b1 (.slice va s.length vc) s:=Rw hr (by simp) (by simp) (by simp;omega);exact Am (e:=none) hc (Kp.set_lo (i:=1) h.fr.lt (.slice va s.length vc)) (by simp)
theorem Abv {w0:World}{B b1:Nat}{ins stk:List Int}{ia va:Option Addr}{ic vc rd st:Nat}{c:ByteArray} (k:Int) (w:World) (h:Sm.At w0 B b1 ins ia ic c stk va vc rd st w) (hl:stk.length<2) :
  Calls Tryz.prog 28 #[.pointer (some ⟨B,0,none⟩),.int .i64 k] w fun e w'=>e=.returned (.tuple #[])∧Sm.Next w0 B b1 ins ia ic c stk rd st w':=by
 obtain⟨_,c1,_,_,_⟩:=h.cell;have hl':(stk.length:Int)<2:=by omega
 have H:=Ac h;clear h;go_enter Tryz.func28,Tryz.ntmps28;go_wp2;refine bodyPost_ret (results_none rfl _ _ _) rfl ?_;exact⟨rfl,.inl ⟨_,_,Aa H⟩⟩
theorem Yf {w0:World}{B b1:Nat}{ins s stk:List Int}{ia va:Option Addr}{ic vc rd st:Nat}{c:ByteArray} (a b:Int) (w:World) (h:Sm.At w0 B b1 ins ia ic c stk va vc rd st w) (hstk:stk=s++[a]++[b]) (hc:c.size≤900) (hs:st≤1000) (hl:s.length+2≤8) (ha:Sm.In a) (hb:Sm.In b) (hz:b=0) :
  Calls Tryz.prog 28 #[.pointer (some ⟨B,0,none⟩),.int .i64 6] w fun e w'=>e=.returned (.tuple #[])∧Sm.Next w0 B b1 ins ia ic c stk rd st w':=by
 obtain⟨_,c1,_,_,_⟩:=h.cell;obtain⟨i0,hi,hz0,hz1,hz2⟩:=info_parts Tryz.infoInt;have hlen:stk.length=s.length+2:=by rw[hstk];simp
 have hrow:=h.row;unfold IntsAt at hrow;rw[hlen]at c1 hrow;obtain⟨g,hg,hglt,hgb,hcell⟩:=Ao hrow (by omega);have hcap:=Gl hrow;have x1:=hcell (s.length+1) (by rw[hstk];simp);have x0:=hcell s.length (by rw[hstk];simp);have y1:(List.map (Value.int .i64) stk)[s.length+1]?=some (.int .i64 b):=by rw[hstk];simp
 have y0:(List.map (Value.int .i64) stk)[s.length]?=some (.int .i64 a):=by rw[hstk];simp
 rw[y1]at x1;rw[y0]at x0;subst hg;have HK:=Ac (fun (_:Unit)=>hstk);have n1:((s.length:Int)+2)-1=((s.length+1:Nat):Int):=by omega
 have n2:((s.length:Int)+2)-2=(s.length:Int):=by omega
 have n3:¬ (s.length:Int)+2<2:=by omega
 clear hcell y1 y0 hrow hstk;subst hz;have H:=Ac h;clear h hlen;go_enter Tryz.func28,Tryz.ntmps28;go_wp2;refine bodyPost_ret (results_none rfl _ _ _) rfl ?_;exact⟨rfl,.inl ⟨_,_,Aa H⟩⟩
theorem Aed {w0:World}{B b1:Nat}{ins s stk:List Int}{ia va:Option Addr}{ic vc rd st:Nat}{c:ByteArray} (a b:Int) (w:World) (h:Sm.At w0 B b1 ins ia ic c stk va vc rd st w) (hstk:stk=s++[a]++[b]) (hc:c.size≤900) (hs:st≤1000) (hl:s.length+2≤8) (ha:Sm.In a) (hb:Sm.In b) :
  Calls Tryz.prog 28 #[.pointer (some ⟨B,0,none⟩),.int .i64 3] w fun e w'=>e=.returned (.tuple #[])∧Sm.Next w0 B b1 ins ia ic c stk rd st w':=by
 obtain⟨_,c1,_,_,_⟩:=h.cell;obtain⟨i0,hi,hz0,hz1,hz2⟩:=info_parts Tryz.infoInt;have hlen:stk.length=s.length+2:=by rw[hstk];simp
 have hrow:=h.row;unfold IntsAt at hrow;rw[hlen]at c1 hrow;obtain⟨g,hg,hglt,hgb,hcell⟩:=Ao hrow (by omega);have hcap:=Gl hrow;have x1:=hcell (s.length+1) (by rw[hstk];simp);have x0:=hcell s.length (by rw[hstk];simp);have y1:(List.map (Value.int .i64) stk)[s.length+1]?=some (.int .i64 b):=by rw[hstk];simp
 have y0:(List.map (Value.int .i64) stk)[s.length]?=some (.int .i64 a):=by rw[hstk];simp
 rw[y1]at x1;rw[y0]at x0;subst hg;have HK:=Ac (fun (_:Unit)=>hstk);have n1:((s.length:Int)+2)-1=((s.length+1:Nat):Int):=by omega
 have n2:((s.length:Int)+2)-2=(s.length:Int):=by omega
 have n3:¬ (s.length:Int)+2<2:=by omega
 clear hcell y1 y0 hrow hstk;have kw:IntKind.i64.wrap (a+b)=a+b:=Da _ (by obtain⟨_,_⟩:=ha;obtain⟨_,_⟩:=hb;omega) (by obtain⟨_,_⟩:=ha;obtain⟨_,_⟩:=hb;omega);have z0:(⟨#[7]⟩:ByteArray).size=1:=rfl;have HW:=Ac (Cp ⟨#[7]⟩ w h (by omega) (by omega) (by omega));have is0:Kr.Is ⟨#[7]⟩ ((Sm.enc1 (7,0)).map Afe):=rfl;have ex:∀ o,Sm.Ex ins (7,0) ⟨stk,rd,o⟩ ⟨s++[Mc.w32 (a+b)],rd,o⟩:=fun o=>by
  rw[Aa HK ()];refine Sm.Ex.arith s rd o 7 a b _ hl (by omega) (by omega) ?_;unfold Mc.reckoned;rw[Gb ha,Gb hb]
  simp
 have hN:=fun w=>Eb (a+b) w;generalize Mc.w32 (a+b)=z at *;have HN:=Ac hN;have EX:=Ac ex;clear ex h hlen hN;go_enter Tryz.func28,Tryz.ntmps28;go_wp2_with fail
 refine(Aa HW).mono ?_;rintro e w2 ⟨rfl,h2⟩;clear c1 x0 x1 HW;have h3:=h2;rw[Aa HK (),List.append_assoc]at h3;have h4:=h3.cut (by simp);obtain⟨_,c1,_,_,_⟩:=h2.cell;have hlen:stk.length=s.length+2:=by rw[Aa HK ()];simp
 rw[hlen]at c1;have f1:=h2.free 1;obtain⟨_,d1,_,_,_⟩:=h4.cell;have g1:=h4.free 1;have hsz:=h4.fr.sz;have H4:=Ac h4;have hcp:(s.length:Int)≤(vc:Int):=by omega
 clear h2 h3 h4 hlen HK;go_wp2_with fail
 refine(Aa HN _).mono ?_;rintro e w3 ⟨rfl,rfl⟩;go_wp2_with (at_builtin;refine wpList_append_own _ rfl _ _ 26 rfl b1 3 i0 _ 1 8 Tryz.underlying26 hi hz0 hz1 hz2 rfl (by decide) _ _ _ rfl ((Aa H4).row.alloc _) _ 1 1 [.int .i64 z] rfl rfl ?c1 ?c2 ?c3 ?c4 ?c5 ?_)
 case c1=>exact Ar _ _ _ _ (by first | rfl | simp[World.setCell,World.drewN])
 case c2=>intro u hu;simp at hu;subst hu;rfl
 case c3=>unfold maxLen;omega
 case c4=>omega
 case c5=>simp[World.setCell,World.drewN]at hsz ⊢;omega
 intro v' w9 hown2 hgrow _;obtain⟨va',vc',rfl⟩:=Ae hown2;obtain⟨hF,hA⟩:=(Aa H4).pushed hown2 hgrow;have e1:=(Ab hF.blk 1).trans (show _=some (.slice (some ⟨g,0,none⟩) s.length vc) from rfl);have e2:=Ag hF.blk 1;have HA:=Ac hA;clear hgrow hown2 hF hA;go_wp2
 go_end0
 exact⟨rfl,.inr ⟨(7,0),_,_,_,_,_,is0,Aa EX,Aa HA⟩⟩
theorem Ad5 {w0:World}{B b1:Nat}{ins s stk:List Int}{ia va:Option Addr}{ic vc rd st:Nat}{c:ByteArray} (a b:Int) (w:World) (h:Sm.At w0 B b1 ins ia ic c stk va vc rd st w) (hstk:stk=s++[a]++[b]) (hc:c.size≤900) (hs:st≤1000) (hl:s.length+2≤8) (ha:Sm.In a) (hb:Sm.In b) :
  Calls Tryz.prog 28 #[.pointer (some ⟨B,0,none⟩),.int .i64 4] w fun e w'=>e=.returned (.tuple #[])∧Sm.Next w0 B b1 ins ia ic c stk rd st w':=by
 obtain⟨_,c1,_,_,_⟩:=h.cell;obtain⟨i0,hi,hz0,hz1,hz2⟩:=info_parts Tryz.infoInt;have hlen:stk.length=s.length+2:=by rw[hstk];simp
 have hrow:=h.row;unfold IntsAt at hrow;rw[hlen]at c1 hrow;obtain⟨g,hg,hglt,hgb,hcell⟩:=Ao hrow (by omega);have hcap:=Gl hrow;have x1:=hcell (s.length+1) (by rw[hstk];simp);have x0:=hcell s.length (by rw[hstk];simp);have y1:(List.map (Value.int .i64) stk)[s.length+1]?=some (.int .i64 b):=by rw[hstk];simp
 have y0:(List.map (Value.int .i64) stk)[s.length]?=some (.int .i64 a):=by rw[hstk];simp
 rw[y1]at x1;rw[y0]at x0;subst hg;have HK:=Ac (fun (_:Unit)=>hstk);have n1:((s.length:Int)+2)-1=((s.length+1:Nat):Int):=by omega
 have n2:((s.length:Int)+2)-2=(s.length:Int):=by omega
 have n3:¬ (s.length:Int)+2<2:=by omega
 clear hcell y1 y0 hrow hstk;have kw:IntKind.i64.wrap (a-b)=a-b:=Da _ (by obtain⟨_,_⟩:=ha;obtain⟨_,_⟩:=hb;omega) (by obtain⟨_,_⟩:=ha;obtain⟨_,_⟩:=hb;omega);have z0:(⟨#[8]⟩:ByteArray).size=1:=rfl;have HW:=Ac (Cp ⟨#[8]⟩ w h (by omega) (by omega) (by omega));have is0:Kr.Is ⟨#[8]⟩ ((Sm.enc1 (8,0)).map Afe):=rfl;have ex:∀ o,Sm.Ex ins (8,0) ⟨stk,rd,o⟩ ⟨s++[Mc.w32 (a-b)],rd,o⟩:=fun o=>by
  rw[Aa HK ()];refine Sm.Ex.arith s rd o 8 a b _ hl (by omega) (by omega) ?_;unfold Mc.reckoned;rw[Gb ha,Gb hb]
  simp
 have hN:=fun w=>Eb (a-b) w;generalize Mc.w32 (a-b)=z at *;have HN:=Ac hN;have EX:=Ac ex;clear ex h hlen hN;go_enter Tryz.func28,Tryz.ntmps28;go_wp2_with fail
 refine(Aa HW).mono ?_;rintro e w2 ⟨rfl,h2⟩;clear c1 x0 x1 HW;have h3:=h2;rw[Aa HK (),List.append_assoc]at h3;have h4:=h3.cut (by simp);obtain⟨_,c1,_,_,_⟩:=h2.cell;have hlen:stk.length=s.length+2:=by rw[Aa HK ()];simp
 rw[hlen]at c1;have f1:=h2.free 1;obtain⟨_,d1,_,_,_⟩:=h4.cell;have g1:=h4.free 1;have hsz:=h4.fr.sz;have H4:=Ac h4;have hcp:(s.length:Int)≤(vc:Int):=by omega
 clear h2 h3 h4 hlen HK;go_wp2_with fail
 refine(Aa HN _).mono ?_;rintro e w3 ⟨rfl,rfl⟩;go_wp2_with (at_builtin;refine wpList_append_own _ rfl _ _ 26 rfl b1 3 i0 _ 1 8 Tryz.underlying26 hi hz0 hz1 hz2 rfl (by decide) _ _ _ rfl ((Aa H4).row.alloc _) _ 1 1 [.int .i64 z] rfl rfl ?c1 ?c2 ?c3 ?c4 ?c5 ?_)
 case c1=>exact Ar _ _ _ _ (by first | rfl | simp[World.setCell,World.drewN])
 case c2=>intro u hu;simp at hu;subst hu;rfl
 case c3=>unfold maxLen;omega
 case c4=>omega
 case c5=>simp[World.setCell,World.drewN]at hsz ⊢;omega
 intro v' w9 hown2 hgrow _;obtain⟨va',vc',rfl⟩:=Ae hown2;obtain⟨hF,hA⟩:=(Aa H4).pushed hown2 hgrow;have e1:=(Ab hF.blk 1).trans (show _=some (.slice (some ⟨g,0,none⟩) s.length vc) from rfl);have e2:=Ag hF.blk 1;have HA:=Ac hA;clear hgrow hown2 hF hA;go_wp2
 go_end0
 exact⟨rfl,.inr ⟨(8,0),_,_,_,_,_,is0,Aa EX,Aa HA⟩⟩
theorem Aee {w0:World}{B b1:Nat}{ins s stk:List Int}{ia va:Option Addr}{ic vc rd st:Nat}{c:ByteArray} (a b:Int) (w:World) (h:Sm.At w0 B b1 ins ia ic c stk va vc rd st w) (hstk:stk=s++[a]++[b]) (hc:c.size≤900) (hs:st≤1000) (hl:s.length+2≤8) (ha:Sm.In a) (hb:Sm.In b) :
  Calls Tryz.prog 28 #[.pointer (some ⟨B,0,none⟩),.int .i64 5] w fun e w'=>e=.returned (.tuple #[])∧Sm.Next w0 B b1 ins ia ic c stk rd st w':=by
 obtain⟨_,c1,_,_,_⟩:=h.cell;obtain⟨i0,hi,hz0,hz1,hz2⟩:=info_parts Tryz.infoInt;have hlen:stk.length=s.length+2:=by rw[hstk];simp
 have hrow:=h.row;unfold IntsAt at hrow;rw[hlen]at c1 hrow;obtain⟨g,hg,hglt,hgb,hcell⟩:=Ao hrow (by omega);have hcap:=Gl hrow;have x1:=hcell (s.length+1) (by rw[hstk];simp);have x0:=hcell s.length (by rw[hstk];simp);have y1:(List.map (Value.int .i64) stk)[s.length+1]?=some (.int .i64 b):=by rw[hstk];simp
 have y0:(List.map (Value.int .i64) stk)[s.length]?=some (.int .i64 a):=by rw[hstk];simp
 rw[y1]at x1;rw[y0]at x0;subst hg;have HK:=Ac (fun (_:Unit)=>hstk);have n1:((s.length:Int)+2)-1=((s.length+1:Nat):Int):=by omega
 have n2:((s.length:Int)+2)-2=(s.length:Int):=by omega
 have n3:¬ (s.length:Int)+2<2:=by omega
 clear hcell y1 y0 hrow hstk;obtain⟨m1,m2⟩:=Aem ha hb;have kw:IntKind.i64.wrap (a*b)=a*b:=Da _ (by obtain⟨_,_⟩:=ha;obtain⟨_,_⟩:=hb;omega) (by obtain⟨_,_⟩:=ha;obtain⟨_,_⟩:=hb;omega);have z0:(⟨#[9]⟩:ByteArray).size=1:=rfl;have HW:=Ac (Cp ⟨#[9]⟩ w h (by omega) (by omega) (by omega));have is0:Kr.Is ⟨#[9]⟩ ((Sm.enc1 (9,0)).map Afe):=rfl;have ex:∀ o,Sm.Ex ins (9,0) ⟨stk,rd,o⟩ ⟨s++[Mc.w32 (a*b)],rd,o⟩:=fun o=>by
  rw[Aa HK ()];refine Sm.Ex.arith s rd o 9 a b _ hl (by omega) (by omega) ?_;unfold Mc.reckoned;rw[Gb ha,Gb hb]
  simp
 have hN:=fun w=>Eb (a*b) w;generalize Mc.w32 (a*b)=z at *;have HN:=Ac hN;have EX:=Ac ex;clear ex h hlen hN;go_enter Tryz.func28,Tryz.ntmps28;go_wp2_with fail
 refine(Aa HW).mono ?_;rintro e w2 ⟨rfl,h2⟩;clear c1 x0 x1 HW;have h3:=h2;rw[Aa HK (),List.append_assoc]at h3;have h4:=h3.cut (by simp);obtain⟨_,c1,_,_,_⟩:=h2.cell;have hlen:stk.length=s.length+2:=by rw[Aa HK ()];simp
 rw[hlen]at c1;have f1:=h2.free 1;obtain⟨_,d1,_,_,_⟩:=h4.cell;have g1:=h4.free 1;have hsz:=h4.fr.sz;have H4:=Ac h4;have hcp:(s.length:Int)≤(vc:Int):=by omega
 clear h2 h3 h4 hlen HK;go_wp2_with fail
 refine(Aa HN _).mono ?_;rintro e w3 ⟨rfl,rfl⟩;go_wp2_with (at_builtin;refine wpList_append_own _ rfl _ _ 26 rfl b1 3 i0 _ 1 8 Tryz.underlying26 hi hz0 hz1 hz2 rfl (by decide) _ _ _ rfl ((Aa H4).row.alloc _) _ 1 1 [.int .i64 z] rfl rfl ?c1 ?c2 ?c3 ?c4 ?c5 ?_)
 case c1=>exact Ar _ _ _ _ (by first | rfl | simp[World.setCell,World.drewN])
 case c2=>intro u hu;simp at hu;subst hu;rfl
 case c3=>unfold maxLen;omega
 case c4=>omega
 case c5=>simp[World.setCell,World.drewN]at hsz ⊢;omega
 intro v' w9 hown2 hgrow _;obtain⟨va',vc',rfl⟩:=Ae hown2;obtain⟨hF,hA⟩:=(Aa H4).pushed hown2 hgrow;have e1:=(Ab hF.blk 1).trans (show _=some (.slice (some ⟨g,0,none⟩) s.length vc) from rfl);have e2:=Ag hF.blk 1;have HA:=Ac hA;clear hgrow hown2 hF hA;go_wp2
 go_end0
 exact⟨rfl,.inr ⟨(9,0),_,_,_,_,_,is0,Aa EX,Aa HA⟩⟩
theorem Aeh {w0:World}{B b1:Nat}{ins s stk:List Int}{ia va:Option Addr}{ic vc rd st:Nat}{c:ByteArray} (a b:Int) (w:World) (h:Sm.At w0 B b1 ins ia ic c stk va vc rd st w) (hstk:stk=s++[a]++[b]) (hc:c.size≤900) (hs:st≤1000) (hl:s.length+2≤8) (ha:Sm.In a) (hb:Sm.In b) (hz:b≠0) :
  Calls Tryz.prog 28 #[.pointer (some ⟨B,0,none⟩),.int .i64 6] w fun e w'=>e=.returned (.tuple #[])∧Sm.Next w0 B b1 ins ia ic c stk rd st w':=by
 obtain⟨_,c1,_,_,_⟩:=h.cell;obtain⟨i0,hi,hz0,hz1,hz2⟩:=info_parts Tryz.infoInt;have hlen:stk.length=s.length+2:=by rw[hstk];simp
 have hrow:=h.row;unfold IntsAt at hrow;rw[hlen]at c1 hrow;obtain⟨g,hg,hglt,hgb,hcell⟩:=Ao hrow (by omega);have hcap:=Gl hrow;have x1:=hcell (s.length+1) (by rw[hstk];simp);have x0:=hcell s.length (by rw[hstk];simp);have y1:(List.map (Value.int .i64) stk)[s.length+1]?=some (.int .i64 b):=by rw[hstk];simp
 have y0:(List.map (Value.int .i64) stk)[s.length]?=some (.int .i64 a):=by rw[hstk];simp
 rw[y1]at x1;rw[y0]at x0;subst hg;have HK:=Ac (fun (_:Unit)=>hstk);have n1:((s.length:Int)+2)-1=((s.length+1:Nat):Int):=by omega
 have n2:((s.length:Int)+2)-2=(s.length:Int):=by omega
 have n3:¬ (s.length:Int)+2<2:=by omega
 clear hcell y1 y0 hrow hstk;obtain⟨m1,m2⟩:=Aej (b:=b) ha;have hzb:(b==0)=false:=by simpa using hz
 have kw:IntKind.i64.wrap (a.tdiv b)=a.tdiv b:=Da _ (by obtain⟨_,_⟩:=ha;obtain⟨_,_⟩:=hb;omega) (by obtain⟨_,_⟩:=ha;obtain⟨_,_⟩:=hb;omega);have z0:(⟨#[10]⟩:ByteArray).size=1:=rfl;have HW:=Ac (Cp ⟨#[10]⟩ w h (by omega) (by omega) (by omega));have is0:Kr.Is ⟨#[10]⟩ ((Sm.enc1 (10,0)).map Afe):=rfl;have ex:∀ o,Sm.Ex ins (10,0) ⟨stk,rd,o⟩ ⟨s++[Mc.w32 (a.tdiv b)],rd,o⟩:=fun o=>by
  rw[Aa HK ()];refine Sm.Ex.arith s rd o 10 a b _ hl (by omega) (by omega) ?_;unfold Mc.reckoned;rw[Gb ha,Gb hb];rw[if_neg (by omega),if_neg (by omega),if_neg (by omega),if_neg hz]
 have hN:=fun w=>Eb (a.tdiv b) w;generalize Mc.w32 (a.tdiv b)=z at *;have HN:=Ac hN;have EX:=Ac ex;clear ex h hlen hN;go_enter Tryz.func28,Tryz.ntmps28;go_wp2_with fail
 refine(Aa HW).mono ?_;rintro e w2 ⟨rfl,h2⟩;clear c1 x0 x1 HW;have h3:=h2;rw[Aa HK (),List.append_assoc]at h3;have h4:=h3.cut (by simp);obtain⟨_,c1,_,_,_⟩:=h2.cell;have hlen:stk.length=s.length+2:=by rw[Aa HK ()];simp
 rw[hlen]at c1;have f1:=h2.free 1;obtain⟨_,d1,_,_,_⟩:=h4.cell;have g1:=h4.free 1;have hsz:=h4.fr.sz;have H4:=Ac h4;have hcp:(s.length:Int)≤(vc:Int):=by omega
 clear h2 h3 h4 hlen HK;go_wp2_with fail
 refine(Aa HN _).mono ?_;rintro e w3 ⟨rfl,rfl⟩;go_wp2_with (at_builtin;refine wpList_append_own _ rfl _ _ 26 rfl b1 3 i0 _ 1 8 Tryz.underlying26 hi hz0 hz1 hz2 rfl (by decide) _ _ _ rfl ((Aa H4).row.alloc _) _ 1 1 [.int .i64 z] rfl rfl ?c1 ?c2 ?c3 ?c4 ?c5 ?_)
 case c1=>exact Ar _ _ _ _ (by first | rfl | simp[World.setCell,World.drewN])
 case c2=>intro u hu;simp at hu;subst hu;rfl
 case c3=>unfold maxLen;omega
 case c4=>omega
 case c5=>simp[World.setCell,World.drewN]at hsz ⊢;omega
 intro v' w9 hown2 hgrow _;obtain⟨va',vc',rfl⟩:=Ae hown2;obtain⟨hF,hA⟩:=(Aa H4).pushed hown2 hgrow;have e1:=(Ab hF.blk 1).trans (show _=some (.slice (some ⟨g,0,none⟩) s.length vc) from rfl);have e2:=Ag hF.blk 1;have HA:=Ac hA;clear hgrow hown2 hF hA;go_wp2
 go_end0
 exact⟨rfl,.inr ⟨(10,0),_,_,_,_,_,is0,Aa EX,Aa HA⟩⟩
theorem Ts {w0:World}{B b1:Nat}{ins stk:List Int}{ia va:Option Addr}{ic vc rd st:Nat}{c:ByteArray} (k:Nat) (w:World) (h:Sm.At w0 B b1 ins ia ic c stk va vc rd st w) (hc:c.size≤900) (hs:st≤1000) (hl:stk.length≤8) (hin:∀ x∈stk,Sm.In x) (hk1:3≤k) (hk2:k≤6) :
  Calls Tryz.prog 28 #[.pointer (some ⟨B,0,none⟩),.int .i64 (k:Int)] w fun e w'=>e=.returned (.tuple #[])∧Sm.Next w0 B b1 ins ia ic c stk rd st w':=by
 by_cases h2:stk.length<2
 ·exact Abv (k:Int) w h h2
 ·obtain⟨s,b,e1⟩:∃ s b,stk=s++[b]:=⟨stk.dropLast,stk.getLast (by intro e;rw[e]at h2;simp at h2),(List.dropLast_concat_getLast _).symm⟩;obtain⟨s',a,e2⟩:∃ s' a,s=s' ++ [a]:=by
   have hs':s≠[]:=by intro e;rw[e]at e1;rw[e1]at h2;simp at h2
   exact⟨s.dropLast,s.getLast hs',(List.dropLast_concat_getLast _).symm⟩
  subst e2;have hl':s'.length+2≤8:=by rw[e1]at hl;simp at hl;omega
  have ha:Sm.In a:=hin a (by rw[e1];simp);have hb:Sm.In b:=hin b (by rw[e1];simp);obtain rfl | rfl | rfl | rfl:k=3∨k=4∨k=5∨k=6:=by omega
  ·exact Aed a b w h e1 hc hs hl' ha hb
  ·exact Ad5 a b w h e1 hc hs hl' ha hb
  ·exact Aee a b w h e1 hc hs hl' ha hb
  ·by_cases hz:b=0
   ·exact Yf a b w h e1 hc hs hl' ha hb hz
   ·exact Aeh a b w h e1 hc hs hl' ha hb hz
theorem Sm.At.stored {w0:World}{B b1 g:Nat}{ins stk:List Int}{ia:Option Addr}{ic vc rd st:Nat}{c:ByteArray}{w:World} (h:Sm.At w0 B b1 ins ia ic c stk (some ⟨g,0,none⟩) vc rd st w) (hg:b1≤g) (j:Nat) (x:Int):Sm.At w0 B b1 ins ia ic c (stk.set j x) (some ⟨g,0,none⟩) vc rd st (w.setCell ⟨g,j,none⟩ (.int .i64 x)):=by
 refine⟨?_,?_⟩
 ·have:=h.fr.other hg j (.int .i64 x)
  simpa using this
 ·have:=(h.row.stored j (.int .i64 x)).1;unfold IntsAt
  simpa[List.map_set] using this
theorem Mq {w0:World}{B b1:Nat}{ins stk:List Int}{ia va:Option Addr}{ic vc rd st:Nat}{c:ByteArray} (dup:Bool) (w:World) (h:Sm.At w0 B b1 ins ia ic c stk va vc rd st w) (hl:if dup=true then stk.length=0∨8≤stk.length else stk.length<2) :
  Calls Tryz.prog 29 #[.pointer (some ⟨B,0,none⟩),.bool dup] w fun e w'=>e=.returned (.tuple #[])∧Sm.Next w0 B b1 ins ia ic c stk rd st w':=by
 obtain⟨_,c1,_,_,_⟩:=h.cell;have H:=Ac h;clear h;cases dup with
 | true =>
  rw[if_pos rfl]at hl;rcases hl with hl | hl
  ·have h1:¬ (0:Int)<(stk.length:Int):=by omega
   clear hl;go_enter Tryz.func29,Tryz.ntmps29;go_wp2
   go_end0
   exact⟨rfl,.inl ⟨_,_,Aa H⟩⟩
  ·have h1:(0:Int)<(stk.length:Int):=by omega
   have h2:¬ (stk.length:Int)<8:=by omega
   clear hl;go_enter Tryz.func29,Tryz.ntmps29;go_wp2
   go_end0
   exact⟨rfl,.inl ⟨_,_,Aa H⟩⟩
 | false =>
  rw[if_neg (by simp)]at hl;have h1:¬ (1:Int)<(stk.length:Int):=by omega
  clear hl;go_enter Tryz.func29,Tryz.ntmps29;go_wp2
  go_end0
  exact⟨rfl,.inl ⟨_,_,Aa H⟩⟩
theorem Ve {w0:World}{B b1 n:Nat}{ins stk:List Int}{ia va va':Option Addr}{ic vc vc' rd st:Nat}{c:ByteArray}{w w2:World}{x:Int} (h:Sm.At w0 B b1 ins ia ic c stk va vc rd st w) (hn:stk.length=n)
  (hown:w2.ownsRow b1 3 1 (.slice va' (n+1) vc') (n+1) (stk.map (Value.int .i64)++[.int .i64 x])) (hg:(w.alloc (O4 x)).drew.grownBy w2 (Value.slice va n vc).ownBlock) :
  w2.cell? ⟨B,1,none⟩=some (.slice va n vc)∧w2.frozen? ⟨B,1,none⟩=false∧Sm.At w0 B b1 ins ia ic c (stk++[x]) va' vc' rd st (w2.setCell ⟨B,1,none⟩ (.slice va' (n+1) vc')):=by
 subst hn;obtain⟨g1,g2,g3,g4,g5⟩:=hg;obtain⟨hF,hA⟩:=h.pushed hown ⟨g1,g2,g3,g4,g5⟩;exact⟨(Ab hF.blk 1).trans rfl,Ag hF.blk 1,hA⟩
theorem Yz {w0:World}{B b1:Nat}{ins s stk:List Int}{ia va:Option Addr}{ic vc rd st:Nat}{c:ByteArray} (b:Int) (w:World) (h:Sm.At w0 B b1 ins ia ic c stk va vc rd st w) (hstk:stk=s++[b]) (hc:c.size≤900) (hs:st≤1000) (hl:s.length+1<8) :
  Calls Tryz.prog 29 #[.pointer (some ⟨B,0,none⟩),.bool true] w fun e w'=>e=.returned (.tuple #[])∧Sm.Next w0 B b1 ins ia ic c stk rd st w':=by
 obtain⟨_,c1,_,_,_⟩:=h.cell;obtain⟨i0,hi,hz0,hz1,hz2⟩:=info_parts Tryz.infoInt;obtain⟨n,hn⟩:∃ n,stk.length=n:=⟨_,rfl⟩;obtain⟨m,hm⟩:∃ m,s.length=m:=⟨_,rfl⟩;have hnm:n=m+1:=by rw[← hn,hstk,← hm];simp
 have z0:(⟨#[5]⟩:ByteArray).size=1:=rfl;have HW:=Ac (Cp ⟨#[5]⟩ w h (by omega) (by omega) (by omega));have is0:Kr.Is ⟨#[5]⟩ ((Sm.enc1 (5,0)).map Afe):=rfl;have ex:∀ o,Sm.Ex ins (5,0) ⟨stk,rd,o⟩ ⟨stk++[b],rd,o⟩:=fun o=>by
  rw[hstk];exact Sm.Ex.dup s rd o b hl
 have EX:=Ac ex;have y0:(List.map (Value.int .i64) stk)[m]?=some (.int .i64 b):=by rw[hstk,← hm];simp
 have ym:m<(List.map (Value.int .i64) stk).length:=by rw[List.length_map];omega
 have HLN:=Ac (fun (_:Unit)=>hn);have Y0:=Ac (fun (_:Unit)=>y0);have YM:=Ac (fun (_:Unit)=>ym);rw[hn]at c1;have n0:(0:Int)<(n:Int):=by omega
 have n8:(n:Int)<8:=by omega
 have k0:(0:Int)≤(m:Int):=by omega
 have k2:(m:Int)<(n:Int):=by omega
 have kw:IntKind.i64.wrap ((n:Int)-1)=(m:Int):=by rw[show (n:Int)-1=(m:Int) by omega];exact Da _ (by omega) (by omega)
 have HNM:=Ac (fun (_:Unit)=>hnm);clear ex h hn hm hnm hstk y0 ym;go_enter Tryz.func29,Tryz.ntmps29;go_wp2_with fail
 refine(Aa HW).mono ?_;rintro e w2 ⟨rfl,h2⟩;clear c1 HW;obtain⟨_,c1,_,_,_⟩:=h2.cell;have f1:=h2.free 1;have hsz:=h2.fr.sz;have hlt:=h2.fr.lt;have lB:B<w2.heap.size:=by omega
 have hrow:=h2.row;unfold IntsAt at hrow;rw[Aa HLN ()]at c1 hrow;obtain⟨g,hg,hglt,hgb,hcell⟩:=Ao hrow (by omega);have x0:=(hcell m (Aa YM ())).trans (Aa Y0 ());subst hg;have ca:∀ o,(w2.alloc o).cell? ⟨B,1,none⟩=some (.slice (some ⟨g,0,none⟩) n vc):=fun o=>(((Below.refl w2.heap.size w2).alloc (Nat.le_refl _) o).cell lB).trans c1;have fa:∀ o,(w2.alloc o).frozen? ⟨B,1,none⟩=false:=fun o=>(((Below.refl w2.heap.size w2).alloc (Nat.le_refl _) o).frozen lB).trans f1;have H2:=Ac h2;clear h2 hcell
 go_upto_region 3 with fail
 have cd:∀ o,(w2.alloc o).drew.cell? ⟨B,1,none⟩=some (.slice (some ⟨g,0,none⟩) n vc):=ca;have fd:∀ o,(w2.alloc o).drew.frozen? ⟨B,1,none⟩=false:=fa
 go_region_law
  ((refine Ni (by rfl) _ _ _ (by rfl) b1 3 i0 _ 1 8 Tryz.underlying26 hi hz0 hz1 hz2 rfl (by omega) _ _ _ (by rfl) ((hrow.alloc _).drew) ⟨w2.heap.size,0,none⟩ 1 1 [.int .i64 b] (by rfl) (by rfl) (Ar w2 _ _ _ rfl) (by simp[Value.oneCell']) (by unfold maxLen;omega) (by omega) (by simp;omega) ?_;intro v' w9 hown2 hgrow;obtain⟨va',vc',rfl⟩:=Ae hown2;have hP:=Ve (Aa H2) (Aa HLN ()) hown2 hgrow;have e1:=hP.1;have e2:=hP.2.1;have HA:=Ac hP.2.2;clear hP hgrow hown2))
 all_goals
  go_wp2
  go_end0
  exact⟨rfl,.inr ⟨(5,0),_,_,_,_,_,is0,Aa EX,Aa HA⟩⟩
theorem Wu {w0:World}{B b1:Nat}{ins s stk:List Int}{ia va:Option Addr}{ic vc rd st:Nat}{c:ByteArray} (a b:Int) (w:World) (h:Sm.At w0 B b1 ins ia ic c stk va vc rd st w) (hstk:stk=s++[a]++[b]) (hc:c.size≤900) (hs:st≤1000) (hl:s.length+2≤8) :
  Calls Tryz.prog 29 #[.pointer (some ⟨B,0,none⟩),.bool false] w fun e w'=>e=.returned (.tuple #[])∧Sm.Next w0 B b1 ins ia ic c stk rd st w':=by
 obtain⟨_,c1,_,_,_⟩:=h.cell;obtain⟨n,hn⟩:∃ n,stk.length=n:=⟨_,rfl⟩;obtain⟨m,hm⟩:∃ m,s.length=m:=⟨_,rfl⟩;obtain⟨k,hk⟩:∃ k,k=m+1:=⟨_,rfl⟩;have hnm:n=m+2:=by rw[← hn,hstk,← hm];simp
 have z0:(⟨#[6]⟩:ByteArray).size=1:=rfl;have HW:=Ac (Cp ⟨#[6]⟩ w h (by omega) (by omega) (by omega));have is0:Kr.Is ⟨#[6]⟩ ((Sm.enc1 (6,0)).map Afe):=rfl;have hset:(stk.set k a).set m b=s++[b]++[a]:=by
  subst hk hm hstk;simp[List.set_append]
 have ex:∀ o,Sm.Ex ins (6,0) ⟨stk,rd,o⟩ ⟨(stk.set k a).set m b,rd,o⟩:=fun o=>by
  rw[hset,hstk];exact Sm.Ex.swap s rd o a b hl
 have EX:=Ac ex;have y0:(List.map (Value.int .i64) stk)[m]?=some (.int .i64 a):=by rw[hstk,← hm];simp
 have y1:(List.map (Value.int .i64) stk)[k]?=some (.int .i64 b):=by rw[hstk,hk,← hm];simp
 have ym:k<(List.map (Value.int .i64) stk).length:=by rw[List.length_map];omega
 have HLN:=Ac (fun (_:Unit)=>hn);have Y0:=Ac (fun (_:Unit)=>y0);have Y1:=Ac (fun (_:Unit)=>y1);have YM:=Ac (fun (_:Unit)=>ym);rw[hn]at c1;have n0:(1:Int)<(n:Int):=by omega
 have k0:(0:Int)≤(m:Int):=by omega
 have k1:(0:Int)≤(k:Int):=by omega
 have k2:(m:Int)<(n:Int):=by omega
 have k3:(k:Int)<(n:Int):=by omega
 have kw:IntKind.i64.wrap ((n:Int)-1)=(k:Int):=by rw[show (n:Int)-1=(k:Int) by omega];exact Da _ (by omega) (by omega)
 have kw2:IntKind.i64.wrap ((n:Int)-2)=(m:Int):=by rw[show (n:Int)-2=(m:Int) by omega];exact Da _ (by omega) (by omega)
 have wk:IntKind.i64.wrap (k:Int)=(k:Int):=Da _ (by omega) (by omega);have wm:IntKind.i64.wrap (m:Int)=(m:Int):=Da _ (by omega) (by omega);have kb:k≤8:=by omega
 have mb:m≤8:=by omega
 have nb:n≤8:=by omega
 have e1:(n:Int)-1=(k:Int):=by omega
 have e2:(n:Int)-2=(m:Int):=by omega
 have HMK:=Ac (fun (_:Unit)=>hk);have HNM:=Ac (fun (_:Unit)=>hnm);clear ex h hn hm hnm hk hstk y0 y1 ym hset;go_enter Tryz.func29,Tryz.ntmps29;go_wp2_with fail
 refine(Aa HW).mono ?_;rintro e w2 ⟨rfl,h2⟩;clear c1 HW;obtain⟨_,c1,_,_,_⟩:=h2.cell;have hrow:=h2.row;unfold IntsAt at hrow;rw[Aa HLN ()]at c1 hrow;obtain⟨g,hg,hglt,hgb,hcell⟩:=Ao hrow (by omega);have x0:=(hcell m (Nat.lt_trans (by have:=Aa HMK ();omega) (Aa YM ()))).trans (Aa Y0 ());have x1:=(hcell k (Aa YM ())).trans (Aa Y1 ());subst hg;have fz:=fun j=>hrow.frozenAt j;have f1:=fz k;have h3:=h2.stored hgb k a;have H3:=Ac (fun (_:Unit)=>h3);have hsz:=h2.fr.sz;clear h2 hcell h3;go_wp2
 go_region_law (fail)
 all_goals
  have h4:Sm.At w0 B b1 ins ia ic (c++⟨#[6]⟩) (stk.set k a) (some ⟨g,0,none⟩) vc rd (st+1) (w2.setCell ⟨g,k,none⟩ (.int .i64 a)).drew:=(Aa H3 ()).below ⟨rfl,rfl,rfl,Nat.le_refl _,fun _ _=>rfl⟩;clear c1 x0 x1 f1 fz hrow hglt hsz;generalize (w2.setCell ⟨g,k,none⟩ (.int .i64 a)).drew=w3 at *;have h5:=h4.stored hgb m b;obtain⟨_,c1,_,_,_⟩:=h4.cell;have hrow:=h4.row;unfold IntsAt at hrow;rw[List.length_set,Aa HLN ()]at c1 hrow;have f1:=hrow.frozenAt m;have x1:=hrow.cellAt m (by omega);have y0:(List.map (Value.int .i64) (stk.set k a))[m]?=some (.int .i64 a):=by
   have h0:=Aa Y0 ();have hk:=Aa HMK ();rw[List.map_set,List.getElem?_set_ne (by omega)];exact h0
  rw[y0]at x1;have H5:=Ac h5;clear h4 h5 hrow y0 H3;go_wp2
  go_end0
  exact⟨rfl,.inr ⟨(6,0),_,_,_,_,_,is0,Aa EX,Aa H5⟩⟩
theorem Yu {w0:World}{B b1:Nat}{ins stk:List Int}{ia va:Option Addr}{ic vc rd st:Nat}{c:ByteArray} (dup:Bool) (w:World) (h:Sm.At w0 B b1 ins ia ic c stk va vc rd st w) (hc:c.size≤900) (hs:st≤1000) (hl:stk.length≤8) :
  Calls Tryz.prog 29 #[.pointer (some ⟨B,0,none⟩),.bool dup] w fun e w'=>e=.returned (.tuple #[])∧Sm.Next w0 B b1 ins ia ic c stk rd st w':=by
 cases dup with
 | true =>
  by_cases h0:stk.length=0∨8≤stk.length
  ·exact Mq true w h (by rw[if_pos rfl];exact h0)
  ·obtain⟨s,b,e1⟩:∃ s b,stk=s++[b]:=⟨stk.dropLast,stk.getLast (by intro e;rw[e]at h0;simp at h0),(List.dropLast_concat_getLast _).symm⟩;exact Yz b w h e1 hc hs (by rw[e1]at h0;simp at h0;omega)
 | false =>
  by_cases h0:stk.length<2
  ·exact Mq false w h (by rw[if_neg (by simp)];exact h0)
  ·obtain⟨s,b,e1⟩:∃ s b,stk=s++[b]:=⟨stk.dropLast,stk.getLast (by intro e;rw[e]at h0;simp at h0),(List.dropLast_concat_getLast _).symm⟩;obtain⟨s',a,e2⟩:∃ s' a,s=s' ++ [a]:=by
    have hs':s≠[]:=by intro e;rw[e]at e1;rw[e1]at h0;simp at h0
    exact⟨s.dropLast,s.getLast hs',(List.dropLast_concat_getLast _).symm⟩
   subst e2;exact Wu a b w h e1 hc hs (by rw[e1]at hl;simp at hl;omega)
theorem Aak (l s:Int) (c hs:ByteArray) (C K:List UInt8) (w:World) (i3:Kr.Is c C) (i4:Kr.Is hs K) (h3:0≤l) (h4:l≤255) (h5:0≤s) (h6:s≤255) (h7:C.length≤255) (h8:K.length≤255) :
  Calls Tryz.prog 31 #[.int .i64 l,.int .i64 s,.string c,.string hs] w fun e w'=>∃ b,e=.returned (.string b)∧Kr.Is b (Kl.file 0 [] 1 (Kl.method [255,0,0] [0,0] l s C K))∧b.size≤30000∧Below w.heap.size w w':=by
 have H1:=Ac (fun w=>Acq ⟨#[255,0,0]⟩ ⟨#[0,0]⟩ l s c hs [255,0,0] [0,0] C K w rfl rfl i3 i4 (by simp) (by simp) h3 h4 h5 h6 h7 h8);go_enter Tryz.func31,Tryz.ntmps31;go_wp2_with fail
 refine(Aa H1 _).mono ?_;rintro e w1 ⟨b1,rfl,i1,z1,hb1⟩;go_wp2_with fail
 refine(Aey 0 1 ⟨#[]⟩ _ [] _ _ rfl i1 (by omega) (by omega) (by omega) (by omega) (by show 0≤10000;omega) (by omega)).mono ?_;rintro e w2 ⟨b2,rfl,i2,z2,hb2⟩;go_wp2;go_ret;exact⟨_,rfl,i2,z2,QB hb1 hb2⟩
theorem Pl {w0:World}{B b1:Nat}{ins stk:List Int}{ia va:Option Addr}{ic vc rd st:Nat}{c:ByteArray} (x:ByteArray) (w:World) (h:Sm.At w0 B b1 ins ia ic c stk va vc rd st w) (hc:c.size≤1000) (hx:x.size≤1000) (hs:st≤100000) :
  Calls Tryz.prog 30 #[.pointer (some ⟨B,0,none⟩),.string x] w fun e w'=>e=.returned (.tuple #[])∧Sm.At w0 B b1 ins ia ic (c++x) stk va vc rd (st+1) w'∧Gr B w w':=by
 obtain⟨c0,_,_,_,c4⟩:=h.cell;have f0:=h.free 0;have h1:=h.code (c++x);have H2:=Ac (h1.steps ((st:Int)+1) (st+1) (by omega));obtain⟨_,_,_,_,d4⟩:=h1.cell;have f4:=h1.free 4;have HG:=Ac ((((Gr.refl B w).setB (i:=0) (.string (c++x))).setB (i:=4) (.int .i64 ((st:Int)+1))));clear h h1;go_enter Tryz.func30,Tryz.ntmps30;go_wp2
 go_end0
 exact⟨rfl,Aa H2,Aa HG⟩
theorem Ab3 {L:List (Nat × Nat)} (hL:(Sm.enc L).length≤120):Kl.file 0 [] 1 (Kl.method [255,0,0] [0,0] 0 8 ((Sm.enc L).map Afe) [])=Agd (Sm.f L):=by
 have e:Afe ((Sm.enc L).length:Int)=(Sm.enc L).length.toUInt8:=Yl _ (by omega);unfold Kl.file Kl.method Agd Ai0 Sm.f;simp only[List.length_map,List.flatMap_nil,List.flatMap_cons,List.append_nil,List.length_nil,List.length_cons];unfold Agl Ai8 Ahj Aie Afz Ahc Sm.m;simp only[List.length_nil,List.flatMap_nil];rw[e];simp[List.append_assoc];exact⟨rfl,rfl,rfl,rfl,rfl,rfl⟩
theorem Ae0 {ins:List Int}{x:Nat × Nat}{s s':Sm.St} (h:Sm.Ex ins x s s') (hi:∀ y∈ins,Sm.In y) (hs:∀ y∈s.stk,Sm.In y):∀ y∈s'.stk,Sm.In y:=by
 cases h using Sm.Ex.el with
 | const s r o v h hv =>
  intro y hy;rcases List.mem_append.1 hy with hy | hy
  ·exact hs y hy
  ·obtain rfl:y=_:=by simpa using hy
   unfold Mc.signed Sm.In
   split<;>omega
 | inp s r o h =>
  intro y hy;rcases List.mem_append.1 hy with hy | hy
  ·exact hs y hy
  ·obtain rfl:y=_:=by simpa using hy
   by_cases hr:r<ins.length
   ·rw[List.getElem?_eq_getElem hr];exact hi _ (List.getElem_mem hr)
   ·rw[List.getElem?_eq_none (by omega)];exact⟨by simp,by simp⟩
 | arith s r o k a b z h h1 h2 hz =>
  intro y hy;rcases List.mem_append.1 hy with hy | hy
  ·exact hs y (by simp[hy])
  ·obtain rfl:y=z:=by simpa using hy
   unfold Mc.reckoned at hz
   split at hz
   ·cases hz;exact El _
   split at hz
   ·cases hz;exact El _
   split at hz
   ·cases hz;exact El _
   split at hz
   ·cases hz
   ·cases hz;exact El _
 | dup s r o a h =>
  intro y hy;rcases List.mem_append.1 hy with hy | hy
  ·exact hs y hy
  ·obtain rfl:y=a:=by simpa using hy
   exact hs y (by simp)
 | swap s r o a b h =>
  intro y hy;refine hs y ?_;simp at hy ⊢;rcases hy with hy | hy | hy
  ·exact .inl hy
  ·exact .inr (.inr hy)
  ·exact .inr (.inl hy)
 | out s r o a h=>exact fun y hy=>hs y (by simp at hy ⊢;exact .inl hy)
theorem Ae2 {ins:List Int}{x:Nat × Nat}{s s':Sm.St} (h:Sm.Ex ins x s s') (hr:s.rd≤ins.length):s'.rd≤ins.length:=by
 cases h using Sm.Ex.el with
 | inp s r o h =>
  show (if r<ins.length then r+1 else r)≤ins.length
  have:r≤ins.length:=hr
  split<;>omega
 | _=>exact hr
theorem Sm.At.beyond {w0:World}{B b1 b2:Nat}{ins stk:List Int}{ia va:Option Addr}{ic vc rd st:Nat}{c:ByteArray}{w w':World}{row:Option Nat} (h:Sm.At w0 B b1 ins ia ic c stk va vc rd st w) (hg:w.grownBy w' row) (hr:∀ k,row=some k→b2≤k) (hb:b1≤b2) (hs:∀ k,(Value.slice va stk.length vc).ownBlock=some k→k<b2):Sm.At w0 B b1 ins ia ic c stk va vc rd st w':=by
 refine⟨h.fr.grow hg (fun k e=>Nat.le_trans hb (hr k e)),h.row.kept hg ?_⟩;cases e:(Value.slice va stk.length vc).ownBlock with
 | none=>exact .inl rfl
 | some k =>
  refine .inr fun e2=>?_;have h1:=hs k e;have h2:=hr k e2.symm;omega
theorem Sm.At.intR {w0:World}{B b1:Nat}{ins stk:List Int}{ia va:Option Addr}{ic vc rd st:Nat}{c:ByteArray}{w:World} (h:Sm.At w0 B b1 ins ia ic c stk va vc rd st w):IntR w ia ins:=fun i hi=>by
 obtain⟨g,o,e,h1,h2,h3⟩:=h.fr.inp i hi;exact⟨g,o,e,Nat.lt_of_lt_of_le h1 h.fr.sz,h3⟩
theorem Adm {ins stk:List Int}{L:List (Nat × Nat)}{q rd:Nat}{o:List Int} (h:Sm.Run ins L ⟨[],0,[]⟩ ⟨stk.take (q+1),rd,o⟩) (hq:q<stk.length) (h8:stk.length≤8):Sm.Run ins (L++[(25,0)]) ⟨[],0,[]⟩ ⟨stk.take q,rd,o++[stk[q]]⟩:=by
 have e:stk.take (q+1)=stk.take q++[stk[q]]:=by rw[List.take_add_one,List.getElem?_eq_getElem hq];rfl
 rw[e]at h;exact h.snoc (Sm.Ex.out (stk.take q) rd o stk[q] (by rw[List.length_take];omega))
theorem Uv {L:List (Nat × Nat)}{c b:ByteArray}{x:Nat × Nat} (h:Kr.Is c ((Sm.enc L).map Afe)) (k:Kr.Is b ((Sm.enc1 x).map Afe)):Kr.Is (c++b) ((Sm.enc (L++[x])).map Afe):=by
 rw[Cc,List.map_append];have e:Sm.enc [x]=Sm.enc1 x:=by rw[Bk];simp[Sm.enc]
 rw[e];exact Ch h k
theorem Ack (L:List (Nat × Nat)) (op:Nat) (h:op≠0):(Sm.enc (L++[(op,0)])).length=(Sm.enc L).length+1:=by
 rw[Cc,List.length_append];have e:Sm.enc [(op,0)]=Sm.enc1 (op,0):=by rw[Bk];simp[Sm.enc]
 rw[e];unfold Sm.enc1;rw[if_neg h];rfl
theorem Ae8 (x:Nat × Nat):(Sm.enc1 x).length≤2:=by unfold Sm.enc1;split<;>simp
structure Sm.Inv (w0:World) (B b1:Nat) (ins:List Int) (ia:Option Addr) (ic:Nat) (L:List (Nat × Nat)) (c:ByteArray) (stk:List Int) (va:Option Addr) (vc rd:Nat) (w:World):Prop where
 at':Sm.At w0 B b1 ins ia ic c stk va vc rd L.length w
 is:Kr.Is c ((Sm.enc L).map Afe)
 run:Sm.Run ins L ⟨[],0,[]⟩ ⟨stk,rd,[]⟩
 inn:∀ y∈stk,Sm.In y
 rdl:rd≤ins.length
theorem Sm.Inv.size {w0:World}{B b1:Nat}{ins stk:List Int}{ia va:Option Addr}{ic vc rd:Nat}{L:List (Nat × Nat)}{c:ByteArray}{w:World} (h:Sm.Inv w0 B b1 ins ia ic L c stk va vc rd w):c.size=(Sm.enc L).length∧L.length≤(Sm.enc L).length∧stk.length≤8:=by
 refine⟨by rw[D7 h.is,List.length_map],?_,?_⟩
 ·clear h
  induction L with
  | nil=>simp
  | cons x l ih =>
   rw[Bk,List.length_append,List.length_cons];have:=Gm x;omega
 ·have hr:=h.run;generalize hz:(⟨stk,rd,[]⟩:Sm.St)=z at hr;have key:∀ {l:List (Nat × Nat)}{s t:Sm.St},Sm.Run ins l s t→s.stk.length≤8→t.stk.length≤8:=by
   intro l s t h
   induction h using Sm.Run.el with
   | nil s=>exact id
   | cons e _ ih=>intro _;exact ih (Qo e).2.2.2.1
  have:=key hr (by simp);rw[← hz]at this;exact this
theorem Sm.Inv.next {w0:World}{B b1:Nat}{ins stk:List Int}{ia va:Option Addr}{ic vc rd:Nat}{L:List (Nat × Nat)}{c:ByteArray}{w w':World} (h:Sm.Inv w0 B b1 ins ia ic L c stk va vc rd w) (hi:∀ y∈ins,Sm.In y) (hn:Sm.Next w0 B b1 ins ia ic c stk rd L.length w') :
  ∃ L' c' stk' va' vc' rd',Sm.Inv w0 B b1 ins ia ic L' c' stk' va' vc' rd' w'∧(Sm.enc L').length≤(Sm.enc L).length+2:=by
 rcases hn with ⟨va',vc',h2⟩|⟨x,b,stk',va',vc',rd',ib,ex,h2⟩
 ·exact⟨L,c,stk,va',vc',rd,⟨h2,h.is,h.run,h.inn,h.rdl⟩,by omega⟩
 ·refine⟨L++[x],c++b,stk',va',vc',rd',⟨by rw[List.length_append];exact h2,?_,h.run.snoc (ex []),Ae0 (ex []) hi h.inn,Ae2 (ex []) h.rdl⟩,?_⟩
  ·rw[Cc,List.map_append];have e:Sm.enc [x]=Sm.enc1 x:=by rw[Bk];simp[Sm.enc]
   rw[e];exact Ch h.is ib
  ·rw[Cc,List.length_append];have e:Sm.enc [x]=Sm.enc1 x:=by rw[Bk];simp[Sm.enc]
   rw[e];have:=Ae8 x;omega
theorem Aap (rl il:List Int) (ra iia:Option Addr) (rc iic:Nat) (w:World) (hrl:rl.length≤maxLen) (hil:il.length≤maxLen) (hr:IntR w ra rl) (hi':IntR w iia il) (hrb:∀ y∈rl,-9223372036854775808≤y∧y≤9223372036854775807) :
  Calls Tryz.prog 6 #[.slice ra rl.length rc,.slice iia il.length iic] w fun e w'=>e=.returned (.bool true)∧Below w.heap.size w w':=by
 obtain⟨i0,hi,hz0,hz1,hz2⟩:=info_parts Tryz.infoInt;have hrl':rl.length≤9223372036854775807:=by unfold maxLen at hrl;omega
 have hil':il.length≤9223372036854775807:=by unfold maxLen at hil;omega
 have HRL:=Ac hr;have HIL:=Ac hi';have HRB:=Ac hrb;have hB0:=(Below.refl w.heap.size w).alloc (Nat.le_refl _) (O28 ⟨#[]⟩ none 0 0 none 0 0 0 0);have C0:=Ad w (O28 ⟨#[]⟩ none 0 0 none 0 0 0 0);clear hr hi' hrb;go_enter Tryz.func6,Tryz.ntmps6;go_wp2
 go_loopw [6] (fun vi wr=>∃ (i:Nat) (l:List Int) (na:Option Addr) (nc:Nat),vi=.int .i64 (i:Int)∧i≤20∧i≤il.length∧Hid (l=(il.take i).map Mc.w32∧l.length=i)∧wr.heap[w.heap.size]?=some (O28 ⟨#[]⟩ none 0 0 na l.length nc 0 0)∧IntsAt wr (w.heap.size+1) (.slice na l.length nc) l∧Below w.heap.size w wr)
  (fun v _=>20-(intOf v).toNat)
 case atStart=>exact⟨0,[],none,0,rfl,by omega,by omega,⟨rfl,rfl⟩,C0,World.ownsRow_nil _ _ _ _,hB0⟩
 case round =>
  clear C0 hB0;obtain⟨i,l,na,nc,rfl,hi20,hiil,HL,hblk,hrow,hB⟩:=hrel;have hlt:=lt_of_block hblk;by_cases hgo:i<il.length∧i<20
  ·have g1:(i:Int)<(il.length:Int):=by omega
   have g2:(i:Int)<20:=by omega
   obtain⟨gi,go,hgi,hgilt,hcell⟩:=((Aa HIL).below hB) i hgo.1;have ll:l.length≤20:=by have:=(Aa HL).2;omega
   have EY:Hid (Unit→il.getD i 0=il[i]):=fun _=>by rw[List.getD_eq_getElem?_getD,List.getElem?_eq_getElem hgo.1];rfl
   generalize il.getD i 0=y at *;subst hgi;have HN:=Ac (fun w=>Eb y w);have c2:=(Ab hblk 2).trans (show _=some (.slice na l.length nc) from rfl);go_wp2_with fail
   refine(Aa HN _).mono ?_;rintro e w3 ⟨rfl,rfl⟩;generalize hz:Mc.w32 y=z;have HZ:=Ac (fun (_:Unit)=>hz);clear hz HN hcell;go_wp2_with (at_builtin;refine wpList_append_own _ rfl _ _ 26 rfl (w.heap.size+1) 3 i0 _ 1 8 Tryz.underlying26 hi hz0 hz1 hz2 rfl (by decide) _ _ _ rfl (hrow.alloc _) _ 1 1 [.int .i64 z] rfl rfl ?c1 ?c2 ?c3 ?c4 ?c5 ?_)
   case c1=>exact Ar _ _ _ _ (by first | rfl | simp[World.setCell,World.drewN])
   case c2=>intro u hu;simp at hu;subst hu;rfl
   case c3=>unfold maxLen;omega
   case c4=>omega
   case c5=>simp;omega
   intro v' w9 hown2 hgrow _;obtain⟨na',nc',rfl⟩:=Ae hown2;have key:∀ k,k<w.heap.size+1→w9.heap[k]?=wr.heap[k]?:=fun k hk=>(World.grownBy.block hgrow k (by simp;omega) (fun e=>by have:=(hrow.lt k e.symm).1;omega)).trans (Below.heap_alloc _ _ _ (by omega));have hblk9:=(key w.heap.size (by omega)).trans hblk;have d2:=(Ab hblk9 2).trans (show _=some (.slice na l.length nc) from rfl);have f2:=Ag hblk9 2;have hB9:=((hB.alloc hB.size (O4 z)).grown hgrow (by simp;have:=hB.size;omega) (fun k e=>by have:=(hrow.lt k e).1;omega)).setCell (p:=⟨w.heap.size,2,none⟩) (Nat.le_refl _) (.slice na' (l.length+1) nc');have hblkA:=Al (i:=2) hblk9 (.slice na' (l.length+1) nc');have hrow9:IntsAt w9 (w.heap.size+1) (.slice na' (l++[z]).length nc') (l++[z]):=by simpa[IntsAt] using hown2
   have hrowA:=Am (e:=none) hrow9 (Kp.set_lo (i:=2) (show w.heap.size<w.heap.size+1 by omega) (.slice na' (l.length+1) nc')) (by simp);have HL2:Hid (l++[z]=(il.take (i+1)).map Mc.w32∧(l++[z]).length=i+1):=by
    obtain⟨e1,e2⟩:=Aa HL;have e3:=Aa HZ ();have e4:=Aa EY ();refine⟨?_,by simp[e2]⟩;rw[List.take_add_one,List.getElem?_eq_getElem hgo.1,List.map_append,← e1,← e3,e4];rfl
   have HBK:=Ac hblkA;have HRW:=Ac hrowA;have HBB:=Ac hB9;clear hgrow hown2 key hblk9 hB9 hblkA hrow9 hrowA hrow hblk hB HL;go_wp2
   go_roundw
   case rel=>exact⟨i+1,l++[z],na',nc',by go_num,by omega,by omega,HL2,by simpa using Aa HBK,Aa HRW,Aa HBB⟩
   case measure=>simp[intOf]<;>omega
  ·obtain⟨el,ell⟩:=Aa HL;have hins:Mc.insOk l=true:=by
    have key:∀ q:List Int,(∀ y∈q,Sm.In y)→Mc.inAll q=true:=by
     intro q
     induction q with
     | nil=>intro _;rfl
     | cons y q ih =>
      intro h;obtain⟨h1,h2⟩:=h y (by simp);rw[Mc.inAll,if_neg (by omega),if_neg (by omega)];exact ih fun z hz=>h z (by simp[hz])
    unfold Mc.insOk;rw[if_neg (by omega)];refine key l fun y hy=>?_;rw[el]at hy;obtain⟨u,_,rfl⟩:=List.mem_map.1 hy;exact El u
   have hinn:∀ y∈l,Sm.In y:=fun y hy=>by
    rw[el]at hy;obtain⟨u,_,rfl⟩:=List.mem_map.1 hy;exact El u
   have hA:Sm.At w w.heap.size wr.heap.size l na nc ⟨#[]⟩ [] none 0 0 0 wr:=by
    refine⟨⟨hblk,fun j hj=>?_,hlt,Nat.le_refl _,Nat.le_refl _,hB⟩,World.ownsRow_nil _ _ _ _⟩;obtain⟨g,hg,hglt,hgb,hcell⟩:=Ao hrow (by omega);refine⟨g,0,hg,hglt,by omega,?_⟩;rw[Nat.zero_add,hcell j (by simpa using hj)];simp[List.getD_eq_getElem?_getD,hj]
   have hI:Sm.Inv w w.heap.size wr.heap.size l na nc [] ⟨#[]⟩ [] none 0 0 wr:=⟨hA,rfl,.nil _,fun y hy=>by simp at hy,by omega⟩;have ll:l.length≤20:=by omega
   have g2:¬ ((i:Int)<(il.length:Int))∨(((i:Int)<(il.length:Int))∧¬ (i:Int)<20):=by omega
   clear hA el ell HL hblk hrow;clear hB hlt hi20 hiil;rcases g2 with g2 | ⟨g2,g3⟩
   all_goals
    have HIN:=Ac hinn;have HOK:=Ac (fun (_:Unit)=>hins);generalize hb:wr.heap.size=b1 at hI;clear hinn hins hb HIL;go_wp2
    go_loopw [8] (fun vi wr=>∃ (i:Nat) (L:List (Nat × Nat)) (c:ByteArray) (stk:List Int) (va:Option Addr) (vc rd:Nat),vi=.int .i64 (i:Int)∧i≤rl.length∧Sm.Inv w w.heap.size b1 l na nc L c stk va vc rd wr∧(Sm.enc L).length≤109)
     (fun v _=>rl.length-(intOf v).toNat)
    case atStart=>exact⟨0,[],_,_,_,_,_,rfl,by omega,hI,by simp[Sm.enc]⟩
    case round =>
     clear hI;obtain⟨i,L,c,stk,va,vc,rd,rfl,hirl,hI,hL⟩:=hrel;obtain⟨s1,s2,s3⟩:=hI.size;have hrd:=hI.rdl;obtain⟨c0,c1,c2,_,c4⟩:=hI.at'.cell;by_cases hgo:i<rl.length∧c.size<108
     ·have g1:(i:Int)<(rl.length:Int):=by omega
      have g2:(c.size:Int)<108:=by omega
      obtain⟨gi,go,hgi,hgilt,hcell⟩:=((Aa HRL).below hI.at'.fr.bel) i hgo.1;have hyb:=Aa HRB (rl.getD i 0) (by rw[List.getD_eq_getElem?_getD,List.getElem?_eq_getElem hgo.1];exact List.getElem_mem _);generalize rl.getD i 0=y at *;have hq:-9223372036854775808≤y.tdiv 8∧y.tdiv 8≤9223372036854775807:=by
       have h1:=Int.mul_tdiv_add_tmod y 8;have h2:=Int.lt_tmod_of_pos y (show (0:Int)<8 by omega);have h3:=Int.tmod_lt_of_pos y (show (0:Int)<8 by omega);omega
      have K1:=Ac (fun w=>Ab9 y 8 w hyb.1 hyb.2 (by omega) (by omega));have K2:=Ac (fun w=>Ab9 (y.tdiv 8) 256 w hq.1 hq.2 (by omega) (by omega));have p1:=Xk y 8 (by omega);have p2:=Xk (y.tdiv 8) 256 (by omega);generalize Kr.pk y 8=kk at *;generalize Kr.pk (y.tdiv 8) 256=vv at *;obtain⟨k,rfl⟩:=Int.eq_ofNat_of_zero_le p1.1;obtain⟨v,rfl⟩:=Int.eq_ofNat_of_zero_le p2.1;have kw:IntKind.i64.wrap (y.tdiv 8)=y.tdiv 8:=Da _ hq.1 hq.2;subst hgi;have H:=Ac hI;clear hI;by_cases k3:k<3
      ·have k3':(k:Int)<3:=by omega
       have HV:=Ac (Wc k v wr (Aa H).at' (by omega) (by omega) (by omega) (by omega) (by omega));go_wp2_with fail
       refine(Aa K1 _).mono ?_;rintro e w5 ⟨rfl,rfl⟩;go_wp2_with fail
       refine(Aa K2 _).mono ?_;rintro e w6 ⟨rfl,rfl⟩;go_wp2_with fail
       refine(Aa HV).mono ?_;rintro e w7 ⟨rfl,hN⟩;obtain⟨L',c',stk',va',vc',rd',hI',hle⟩:=(Aa H).next (Aa HIN) hN
       have H':=Ac hI';clear hI' hN H HV c0 c1 c2 c4 hcell;go_wp2
       go_roundw
       case rel=>exact⟨i+1,L',c',stk',va',vc',rd',by go_num,by omega,Aa H',by omega⟩
       case measure=>simp[intOf]<;>omega
      ·by_cases k7:k<7
       ·have k3':¬ (k:Int)<3:=by omega
        have k7':(k:Int)<7:=by omega
        have HV:=Ac (Ts k wr (Aa H).at' (by omega) (by omega) (by omega) (Aa H).inn (by omega) (by omega));go_wp2_with fail
        refine(Aa K1 _).mono ?_;rintro e w5 ⟨rfl,rfl⟩;go_wp2_with fail
        refine(Aa K2 _).mono ?_;rintro e w6 ⟨rfl,rfl⟩;go_wp2_with fail
        refine(Aa HV).mono ?_;rintro e w7 ⟨rfl,hN⟩;obtain⟨L',c',stk',va',vc',rd',hI',hle⟩:=(Aa H).next (Aa HIN) hN
        have H':=Ac hI';clear hI' hN H HV c0 c1 c2 c4 hcell;go_wp2
        go_roundw
        case rel=>exact⟨i+1,L',c',stk',va',vc',rd',by go_num,by omega,Aa H',by omega⟩
        case measure=>simp[intOf]<;>omega
       ·have k3':¬ (k:Int)<3:=by omega
        have k7':¬ (k:Int)<7:=by omega
        have HV:=Ac (fun dup=>Yu dup wr (Aa H).at' (by omega) (by omega) (by omega));go_wp2_with fail
        refine(Aa K1 _).mono ?_;rintro e w5 ⟨rfl,rfl⟩;go_wp2_with fail
        refine(Aa K2 _).mono ?_;rintro e w6 ⟨rfl,rfl⟩;go_wp2_with fail
        refine(Aa HV _).mono ?_;rintro e w7 ⟨rfl,hN⟩;obtain⟨L',c',stk',va',vc',rd',hI',hle⟩:=(Aa H).next (Aa HIN) hN
        have H':=Ac hI';clear hI' hN H HV c0 c1 c2 c4 hcell;go_wp2
        go_roundw
        case rel=>exact⟨i+1,L',c',stk',va',vc',rd',by go_num,by omega,Aa H',by omega⟩
        case measure=>simp[intOf]<;>omega
     ·have hw2:¬ ((i:Int)<(rl.length:Int))∨(((i:Int)<(rl.length:Int))∧¬ (c.size:Int)<108):=by omega
      have hsb:∀ k,(Value.slice va stk.length vc).ownBlock=some k→k<wr.heap.size:=fun k e=>(hI.at'.row.lt k e).2;have hsz1:=hI.at'.fr.sz;have hBlt:=hI.at'.fr.lt;have HI3:=Ac hI;obtain⟨n,hn⟩:∃ n,stk.length=n:=⟨_,rfl⟩;have HNL:=Ac (fun (_:Unit)=>hn);have n8:n≤8:=by omega
      have hn1:(n:Int)-1=(n:Int)-1:=rfl;rw[hn]at c1;generalize hb2:wr.heap.size=b2 at hsb hsz1;have HSB:=Ac hsb;have HB2:=Ac (fun (_:Unit)=>hb2);clear hI hsb hn hn1 hb2 s1 s2 s3;rcases hw2 with hw2 | ⟨hw2,hw3⟩
      all_goals
       go_wp2
       go_loopw [11,12] (fun vo vi w3=>∃ (j:Nat) (o:List Int) (c':ByteArray) (L':List (Nat × Nat)),vi=.int .i64 ((j:Int)-1)∧j≤n∧IntsAt w3 b2 vo o∧o.length+j=n∧Sm.At w w.heap.size b1 l na nc c' stk va vc rd L'.length w3∧Hid (Kr.Is c' ((Sm.enc L').map Afe))∧Hid (Sm.Run l L' ⟨[],0,[]⟩ ⟨stk.take j,rd,o⟩)∧(Sm.enc L').length+j≤109+n∧b2≤w3.heap.size)
        (fun _ v _=>(intOf v+1).toNat)
       case atStart=>exact⟨n,[],c,L,by go_num,by omega,World.ownsRow_nil _ _ _ _,by simp,(Aa HI3).at',(Aa HI3).is,by have h1:=(Aa HI3).run;have h2:=Aa HNL ();unfold Hid;rw[← h2,List.take_length];exact h1,by omega,by have:=Aa HB2 ();omega⟩
       case round =>
        clear c0 c1 c2 c4 HI3;obtain⟨j,o,c',L',rfl,hj,hro,hol,hA,HIS,HRN,hen,hb3⟩:=hrel;obtain⟨oa,oc,rfl⟩:=Ae hro;obtain⟨c0,c1,c2,_,c4⟩:=hA.cell;have hcs:c'.size=(Sm.enc L').length:=by rw[D7 (Aa HIS),List.length_map]
        have hll:L'.length≤(Sm.enc L').length:=by
         clear hA HIS HRN hcs hen c4
         induction L' with
         | nil=>simp
         | cons x q ih =>
          rw[Bk,List.length_append,List.length_cons];have:=Gm x;omega
        rcases Nat.eq_zero_or_pos j with rfl|hjp
        ·have hrn:=Aa HRN;rw[List.take_zero]at hrn;have hle:(Sm.enc L').length≤119:=by omega
         have hOk:=Ye hrn (by simp) hle;have HPP:=Ac (fun (_:Unit)=>Aci hOk);have HCC:=Ac (fun (_:Unit)=>Qt hOk);have HQQ:=Ac (fun (_:Unit)=>Ad7 hrn hle (Aa HOK ()));have HBY:=Ac (fun (_:Unit)=>Ab3 (L:=L' ++ [(22,0)]) hOk.len);have hIs:=Uv (x:=(22,0)) (b:=⟨#[22]⟩) (Aa HIS) rfl;have hlC:((Sm.enc (L' ++ [(22,0)])).map Afe).length≤255:=by rw[List.length_map];have:=hOk.len;omega
         have z22:(⟨#[22]⟩:ByteArray).size=1:=rfl;have HW:=Ac (Pl ⟨#[22]⟩ wr hA (by omega) (by omega) (by omega));have HS:=Ac (fun w=>Aak 0 8 (c' ++ ⟨#[22]⟩) ⟨#[]⟩ _ [] w hIs rfl (by omega) (by omega) (by omega) (by omega) hlC (by simp));generalize hST:Agd (Sm.f (L' ++ [(22,0)]))=ST at *;clear hST hrn hOk hIs hlC hA HIS HRN c0 c1 c2 c4;go_wp2_with fail
         refine(Aa HW).mono ?_;rintro e w4 ⟨rfl,hA4,hG4⟩;have hro4:=IntR.of_ints (Id hro hG4 (by omega));obtain⟨c0,_,_,_,_⟩:=hA4.cell;have HA4:=Ac hA4;have HR4:=Ac hro4;clear hA4 hro4 hG4 HW hro;go_wp2_with fail
         refine(Aa HS _).mono ?_;rintro e w5 ⟨sb,rfl,iS0,zS,hb5⟩;have iS:Kr.Is sb ST:=by have:=Aa HBY ();rw[← this];exact iS0
         have HRD:=Ac (Aet sb ST ST w5 (by unfold maxLen;omega) (by have:=D7 iS;unfold maxLen;omega) iS (Aa HPP ()) (Aa HCC ()));have hA5:=(Aa HA4).below hb5;have hr5:=(Aa HR4).below hb5;have HA5:=Ac hA5;have HR5:=Ac hr5;clear hA5 hr5 HA4 HR4 hb5 iS0 HS HBY HPP HCC c0;go_wp2_with fail
         refine(Aa HRD).mono ?_;rintro e w6 ⟨pb,rfl,iP,zP,hb6⟩;have hps:pb=sb:=Ae4 iP iS;subst hps;have hA6:=(Aa HA5).below hb6;have hr6:=(Aa HR5).below hb6;have hi6:=hA6.intR;obtain⟨_,_,c2,_,c4⟩:=hA6.cell;have hB6:=hA6.fr.bel;have lB:w.heap.size<w6.heap.size:=by have:=hA6.fr.lt;have:=hA6.fr.sz;omega
         have HD:=Ac (fun w' (hb:Below w6.heap.size w6 w')=>Ae5 pb ST l o 0 1 _ 0 0 _ na oa nc oc w' zP iP (by show l.length≤maxLen;unfold maxLen;omega) (hi6.below hb) (hr6.below hb) (by omega) (Aa HQQ ()));have hBd:Below w6.heap.size w6 w6.drew:=(Below.refl _ _).drew;have n0:¬ (0:Int)≤-1:=by omega
         clear hA6 hr6 hi6 HA5 HR5 HRD hb6 iP iS HQQ;go_wp2
         go_region_held3 (fun w'=>w'.cell? ⟨w.heap.size,2,none⟩=some (.slice na l.length nc)∧w'.cell? ⟨w.heap.size,4,none⟩=some (.int .i64 ((L'.length+1:Nat):Int)))
          (first | exact⟨c2,c4⟩ | exact⟨QC hb7 lB c2,QC hb7 lB c4⟩)
          (first | (go_at_call 33;refine(Aa HD _ (by assumption)).mono ?_;rintro e w7 ⟨rfl,hb7'⟩;have hb7:=hBd.trans (hb7'.mono hBd.size)))
         all_goals
          have hB7:=QB hB6 hb7;go_wp2;go_ret;exact⟨by simp,hB7⟩
        ·obtain⟨q,rfl⟩:∃ q,j=q+1:=⟨j-1,by omega⟩;have hq:q<stk.length:=by have:=Aa HNL ();omega
         have h8:stk.length≤8:=by have:=Aa HNL ();omega
         have hrun2:=Adm (Aa HRN) hq h8;obtain⟨g,hg,hglt,hgb,hcell⟩:=Ao hA.row (by omega);have x0:=hcell q (by simpa using hq);have y0:(List.map (Value.int .i64) stk)[q]?=some (.int .i64 stk[q]):=by simp[hq]
         rw[y0]at x0;generalize stk[q]=y at *;have HR2:=Ac hrun2;have HI2:=Ac (Uv (x:=(25,0)) (b:=⟨#[25]⟩) (Aa HIS) rfl);have he2:=Ack L' 25 (by omega);rw[Aa HNL ()]at c1;subst hg;have HA3:=Ac hA;have q0:(0:Int)≤(q:Int):=by omega
         have q1:(q:Int)<(n:Int):=by omega
         have q8:q≤8:=by omega
         have eq1:((q+1:Nat):Int)-1=(q:Int):=by omega
         have z25:(⟨#[25]⟩:ByteArray).size=1:=rfl;clear hA hcell y0 hrun2 HIS HRN hq h8 c0 c2 c4;go_wp2_with (at_builtin;refine wpList_append_own _ rfl _ _ 26 rfl b2 3 i0 _ 1 8 Tryz.underlying26 hi hz0 hz1 hz2 rfl (by decide) _ _ _ rfl (hro.alloc _) _ 1 1 [.int .i64 y] rfl rfl ?c1 ?c2 ?c3 ?c4 ?c5 ?_)
         case c1=>exact Ar _ _ _ _ (by first | rfl | simp[World.setCell,World.drewN])
         case c2=>intro u hu;simp at hu;subst hu;rfl
         case c3=>unfold maxLen;omega
         case c4=>omega
         case c5=>simp;omega
         intro v' w9 hown2 hgrow _;obtain⟨oa',oc',rfl⟩:=Ae hown2;have hA9:=((Aa HA3).below ((Below.refl wr.heap.size wr).alloc (Nat.le_refl _) (O4 y))).beyond hgrow (fun k e=>(hro.lt k e).1) hsz1 (Aa HSB);have hro9:IntsAt w9 b2 (.slice oa' (o++[y]).length oc') (o++[y]):=by simpa[IntsAt] using hown2
         have hb9:b2≤w9.heap.size:=by have:=World.grownBy.size hgrow;simp at this;omega
         have HW:=Ac (Pl ⟨#[25]⟩ w9 hA9 (by omega) (by omega) (by omega));have HRO:=Ac hro9;clear hA9 hown2 hgrow hro9 HA3 c1 x0;go_wp2_with fail
         refine(Aa HW).mono ?_;rintro e w10 ⟨rfl,hA10,hG⟩;have hro10:=Id (Aa HRO) hG (by omega);have hb10:=Nat.le_trans hb9 hG.size;have HA:=Ac hA10;have HRR:=Ac hro10;clear hA10 hro10 HRO HW hG;go_wp2
         go_roundw
         case rel=>exact⟨q,o++[y],_,L' ++ [(25,0)],congrArg (Value.int .i64) (by omega),by omega,by simpa[IntsAt] using Aa HRR,by simp;omega,by simpa using Aa HA,HI2,HR2,by omega,hb10⟩
         case measure=>simp[intOf]<;>omega
end Go.Proofs.YtpcgnjolfahacaaGreat
