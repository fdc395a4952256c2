/- a part of the proofs -/
import Derived.Deep.RegionHeld3
import Derived.Test.YtpcgnjolfahacaaGreatPk03
set_option maxRecDepth 100000
set_option maxHeartbeats 40000000
set_option linter.unusedVariables false
set_option linter.unusedSimpArgs false
namespace Go.Proofs.YtpcgnjolfahacaaGreat
open Go.RowKit
def Cd.insts (c:List Int):List Cd.Ins:=(Cd.places c).map (Cd.insAt c)
def Cd.readL (c:List Int):List Cd.Ins:=if 0≤Cd.unread c then [] else Cd.insts c
def Cd.readP (c:List Int):Int:=if 0≤Cd.unread c then Cd.unread c else 0
def Cd.readB (c:List Int):Bool:=decide (Cd.unread c<0)
def Cd.one (c:List Int) (p:Nat):Option Cd.Ins:=if p<c.length∧c.getD p 0≤25∧p+Cd.wd (c.getD p 0)≤c.length then some (Cd.insAt c p) else none
theorem T7:Cd.orZero none=⟨0,0,0⟩:=rfl
theorem Rm (c:List Int) (a:Option Addr) (cap bb p:Nat) (w:World) (hl:c.length≤1000) (hp:p≤100000) (h0:∀ x∈c,0≤x) (hi:IntsAt w bb (.slice a c.length cap) c) :
  Calls Tryz.prog 163 #[.slice a c.length cap,.int .i64 (p:Int)] w fun e w' =>
   e=.returned (.tuple #[.agg #[.int .i64 (Cd.orZero (Cd.one c p)).place,.int .i64 (Cd.orZero (Cd.one c p)).op,.int .i64 (Cd.orZero (Cd.one c p)).n],.bool (Cd.one c p).isSome])∧Below w.heap.size w w':=by
 generalize hr:Cd.one c p=r;unfold Cd.one at hr;have kp0:¬ (p:Int)<0:=by omega
 by_cases hpn:p<c.length
 ·obtain⟨g,hg,hglt,_,hcell⟩:=Ao hi (by omega);have y0:w.cell? ⟨g,p,none⟩=some (.int .i64 (c.getD p 0)):=by
   rw[hcell p (by simpa using hpn),List.getElem?_map,List.getD_eq_getElem?_getD,List.getElem?_eq_getElem hpn];rfl
  have hop0:0≤c.getD p 0:=by
   rw[List.getD_eq_getElem?_getD,List.getElem?_eq_getElem hpn];exact h0 _ (List.getElem_mem hpn)
  have y1:p+1<c.length→w.cell? ⟨g,p+1,none⟩=some (.int .i64 (c.getD (p+1) 0)):=by
   intro h;rw[hcell (p+1) (by simpa using h),List.getElem?_map,List.getD_eq_getElem?_getD,List.getElem?_eq_getElem h];rfl
  have hins:Cd.insAt c p=⟨(p:Int),c.getD p 0,if Cd.wd (c.getD p 0)=2 then c.getD (p+1) 0 else 0⟩:=rfl
  have hwd:=Cd.wd_bd (c.getD p 0);have kb:(p:Int)<(c.length:Int):=by omega
  have h1:¬ c.getD p 0<0:=by omega
  by_cases h25:25<c.getD p 0
  ·have HF:Hid (r=none):=by unfold Hid;rw[← hr,if_neg (by omega)]
   generalize c.getD p 0=op at *;clear hr hins hcell y1 hop0 h0 hi;subst hg;go_enter Tryz.func163,Tryz.ntmps163;go_wp2;refine bodyPost_ret (v:=.tuple #[.agg #[.int .i64 0,.int .i64 0,.int .i64 0],.bool false]) (by simp[results,Tryz.results163,go_sem]) rfl ?_;rw[Aa HF];exact⟨rfl,by first | exact Ai _ _ _ | exact QN _⟩
  ·have hhn:=fun w=>Sh (c.getD p 0) w;rcases(show Cd.wd (c.getD p 0)=1∨Cd.wd (c.getD p 0)=2 by omega) with hw | hw
   ·have HF:Hid (r=some ⟨(p:Int),c.getD p 0,0⟩):=by
     unfold Hid;rw[← hr,if_pos (by omega),hins,hw];rfl
    rw[hw]at hhn;generalize c.getD p 0=op at *;have HHN:=Ac hhn;clear hr hins hcell y1 hop0 h0 hi hhn hw hwd;subst hg;go_enter Tryz.func163,Tryz.ntmps163;go_wp2_with fail
    refine(Aa HHN _).mono ?_;rintro e w1 ⟨rfl,rfl⟩;go_wp2;refine bodyPost_ret (v:=.tuple #[.agg #[.int .i64 (p:Int),.int .i64 op,.int .i64 0],.bool true]) (by simp[results,Tryz.results163,go_sem]) rfl ?_;rw[Aa HF];exact⟨rfl,by first | exact Ai _ _ _ | exact QN _⟩
   ·by_cases hp1:p+1<c.length
    ·have HF:Hid (r=some ⟨(p:Int),c.getD p 0,c.getD (p+1) 0⟩):=by
      unfold Hid;rw[← hr,if_pos (by omega),hins,hw];rfl
     have y2:=y1 hp1;have kb2:(p:Int)+1<(c.length:Int):=by omega
     rw[hw]at hhn;generalize c.getD (p+1) 0=nn at *;generalize c.getD p 0=op at *;have HHN:=Ac hhn;clear hr hins hcell y1 hop0 h0 hi hhn hw hwd;subst hg;go_enter Tryz.func163,Tryz.ntmps163;go_wp2_with fail
     refine(Aa HHN _).mono ?_;rintro e w1 ⟨rfl,rfl⟩;go_wp2;refine bodyPost_ret (v:=.tuple #[.agg #[.int .i64 (p:Int),.int .i64 op,.int .i64 nn],.bool true]) (by simp[results,Tryz.results163,go_sem]) rfl ?_;rw[Aa HF];exact⟨rfl,by first | exact Ai _ _ _ | exact QN _⟩
    ·have HF:Hid (r=none):=by unfold Hid;rw[← hr,if_neg (by omega)]
     have kb2:¬ (p:Int)+1<(c.length:Int):=by omega
     rw[hw]at hhn;generalize c.getD p 0=op at *;have HHN:=Ac hhn;clear hr hins hcell y1 hop0 h0 hi hhn hw hwd;subst hg;go_enter Tryz.func163,Tryz.ntmps163;go_wp2_with fail
     refine(Aa HHN _).mono ?_;rintro e w1 ⟨rfl,rfl⟩;go_wp2;refine bodyPost_ret (v:=.tuple #[.agg #[.int .i64 0,.int .i64 0,.int .i64 0],.bool false]) (by simp[results,Tryz.results163,go_sem]) rfl ?_;rw[Aa HF];exact⟨rfl,by first | exact Ai _ _ _ | exact QN _⟩
 ·have HF:Hid (r=none):=by unfold Hid;rw[← hr,if_neg (by omega)]
  have kb:¬ (p:Int)<(c.length:Int):=by omega
  clear hr h0 hi;go_enter Tryz.func163,Tryz.ntmps163;go_wp2;refine bodyPost_ret (v:=.tuple #[.agg #[.int .i64 0,.int .i64 0,.int .i64 0],.bool false]) (by simp[results,Tryz.results163,go_sem]) rfl ?_;rw[Aa HF];exact⟨rfl,by first | exact Ai _ _ _ | exact QN _⟩
theorem Ju (c:List Int) (a:Option Addr) (cap bb:Nat) (w:World) (hl:c.length≤1000) (h0:∀ x∈c,0≤x) (hi:IntsAt w bb (.slice a c.length cap) c) :
  Calls Tryz.prog 108 #[.slice a c.length cap] w fun e w' =>
   ∃ va vc,e=.returned (.tuple #[.slice va (Cd.readL c).length vc,.int .i64 (Cd.readP c),.bool (Cd.readB c)])∧InsAt w' w.heap.size (.slice va (Cd.readL c).length vc) (Cd.readL c)∧Below w.heap.size w w':=by
 obtain⟨i0,hif,hz0,hz1,hz2⟩:=info_parts Tryz.infoIns;have hun:Cd.unread c=Cd.first (Cd.noRead c) (Cd.starts c c.length 0):=rfl
 generalize hU:Cd.unread c=U at hun;have hL:Cd.readL c=if 0≤U then [] else Cd.insts c:=by unfold Cd.readL;rw[hU]
 have hP:Cd.readP c=if 0≤U then U else 0:=by unfold Cd.readP;rw[hU]
 have hBo:Cd.readB c=decide (U<0):=by unfold Cd.readB;rw[hU]
 generalize Cd.readL c=L at *;generalize Cd.readP c=P at *;generalize Cd.readB c=B at *;have HL:=Ac hL;have HP:=Ac hP;have HBo:=Ac hBo;have HU:Hid (Cd.first (Cd.noRead c) (Cd.starts c c.length 0)=U):=hun.symm
 have HD:Hid (([]:List Nat)++Cd.starts c c.length 0=Cd.places c):=rfl;have H0:=Ac h0;clear hL hP hBo hU hun h0;go_enter Tryz.func108,Tryz.ntmps108;go_wp2
 go_loopw [5,6] (fun u v wr=>∃ (p k:Nat) (done:List Nat),v=.int .i64 (p:Int)∧c.length≤p+k∧p≤2000∧done.length≤p∧wr.ownsRow w.heap.size 219 3 u done.length (Cj (done.map (Cd.insAt c))) ∧
   Hid (done++Cd.starts c k p=Cd.places c)∧Hid (Cd.first (Cd.noRead c) (Cd.starts c k p)=U)∧Below w.heap.size w wr)
  (fun _ v _=>c.length-(intOf v).toNat)
 case atStart=>exact⟨0,c.length,[],rfl,by omega,by omega,by simp,World.ownsRow_nil _ _ _ _,HD,HU,Below.refl _ _⟩
 case round =>
  clear HU HD;obtain⟨p,k,done,rfl,hk,hp2,hdl,hown,HD,HU,hB⟩:=hrel;obtain⟨ua,uc,rfl⟩:=Ae hown;have hBs:=hB.size;by_cases hpn:p<c.length
  ·obtain⟨j,rfl,hj,hst⟩:=Cd.starts_go (c:=c) (k:=k) (p:=p) hpn hk;have hu:=Aa HU;have hd:=Aa HD;rw[hst]at hu hd;rw[Cd.first]at hu
   have hwd:=Cd.wd_bd (c.getD p 0);have hone:=fun w' (hb:Below w.heap.size w w')=>Rm c a cap bb p w' hl (by omega) (Aa H0) (hi.kp (Kp.of_below (e:=none) hb) (by decide));have hnr:Cd.noRead c p=(decide (25<c.getD p 0) || decide (c.length<p+Cd.wd (c.getD p 0))):=rfl;have kb:(p:Int)<(c.length:Int):=by omega
   by_cases hok:c.getD p 0≤25∧p+Cd.wd (c.getD p 0)≤c.length
   ·have h1:Cd.one c p=some (Cd.insAt c p):=by unfold Cd.one;rw[if_pos ⟨hpn,hok⟩]
    have hnx:=fun n w=>Hq p (c.getD p 0) n w (by omega);have HUJ:Hid (Cd.first (Cd.noRead c) (Cd.starts c j (p+Cd.wd (c.getD p 0)))=U):=by
     unfold Hid;rw[← hu,hnr,decide_eq_false (show ¬ 25<c.getD p 0 by omega),decide_eq_false (show ¬ c.length<p+Cd.wd (c.getD p 0) by omega)];rw[if_neg (by decide)]
    have HDJ:Hid ((done++[p])++Cd.starts c j (p+Cd.wd (c.getD p 0))=Cd.places c):=by unfold Hid;rw[← hd];simp
    have HINS:Hid (Cj ((done++[p]).map (Cd.insAt c))=Cj (done.map (Cd.insAt c))++[.int .i64 (Cd.insAt c p).place,.int .i64 (Cd.insAt c p).op,.int .i64 (Cd.insAt c p).n]):=by
     unfold Hid;rw[List.map_append,List.map_singleton,Sz]
    have e1:(Cd.insAt c p).place=(p:Int):=rfl;have e2:(Cd.insAt c p).op=c.getD p 0:=rfl;rw[h1]at hone;simp only[Cd.orZero,Option.isSome_some]at hone;rw[e1,e2]at hone;unfold Hid at HINS;rw[e1,e2]at HINS;have HINS:=Ac HINS;generalize (Cd.insAt c p).n=nn at *;generalize Cd.wd (c.getD p 0)=wdp at *;generalize c.getD p 0=op at *;have HON:=Ac hone;have HNX:=Ac hnx;clear hone hnx hu hd hnr hst HU HD e1 e2 h1;go_wp2_with fail
    refine(Aa HON _ hB).mono ?_;rintro e w1 ⟨rfl,hb1⟩;have hB1:=hB.trans (hb1.mono hBs);have hown1:=Am hown (Kp.of_below (e:=none) hb1) (by decide);have hs1:=hB1.size;clear hb1 hown;go_wp2_with (at_builtin;refine wpList_append_own _ rfl _ _ 179 rfl w.heap.size 219 i0 _ 3 24 Tryz.underlying179 hif hz0 hz1 hz2 rfl (by decide) _ _ _ rfl ((hown1.alloc _).alloc _) ⟨w1.heap.size+1,0,none⟩ 1 1 [.int .i64 (p:Int),.int .i64 op,.int .i64 nn] rfl rfl ?c1 ?c2 ?c3 ?c4 ?c5 ?_)
    case c1=>exact Ar _ _ _ _ (by simp)
    case c2=>intro u hu;simp at hu;rcases hu with rfl | rfl | rfl<;>rfl
    case c3=>unfold maxLen;omega
    case c4=>omega
    case c5=>simp;omega
    intro v' w2 hown2 hgrow _;have hX:w2.heap[w1.heap.size]?=some (O9 (p:Int) op nn):=by
     rw[hgrow.block w1.heap.size (by simp;omega) (fun h=>by have:=(hown1.lt _ h.symm).2;omega),Below.heap_alloc _ _ _ (by simp)];exact Ad w1 _
    have hown3:w2.ownsRow w.heap.size 219 3 v' (done++[p]).length (Cj ((done++[p]).map (Cd.insAt c))):=by
     rw[Aa HINS,List.length_append];exact hown2
    have hB2:=((hB1.alloc hs1 _).alloc (by simp;omega) _).grown hgrow (by simp;omega) (fun j hj=>(hown1.lt j hj).1);obtain⟨x0,x1,x2⟩:=cl3 hX;simp at x0 x1 x2;clear hgrow hown1 hown2 hB1 hB hX HINS;go_wp2_with fail
    refine(Aa HNX nn _).mono ?_;rintro e w3 ⟨rfl,hb3⟩;have hB3:=QB hB2 hb3;have hown4:=Am hown3 (Kp.of_below (e:=none) hb3) (by decide);clear hb3 hB2 hown3 x0 x1 x2;go_wp2
    go_roundw
    case rel=>exact⟨p+wdp,j,done++[p],rfl,by omega,by omega,by simp;omega,hown4,HDJ,HUJ,hB3⟩
    case measure=>simp[intOf];omega
   ·have h1:Cd.one c p=none:=by unfold Cd.one;rw[if_neg (fun h=>hok h.2)]
    have HF:Hid (U=(p:Int)):=by
     unfold Hid;rw[← hu,hnr];by_cases h25:25<c.getD p 0
     ·rw[decide_eq_true h25,Bool.true_or,if_pos rfl]
     ·rw[decide_eq_true (show c.length<p+Cd.wd (c.getD p 0) by omega),Bool.or_true,if_pos rfl]
    rw[h1]at hone;simp only[T7,Option.isSome_none]at hone;have HON:=Ac hone;clear hone hu hd hnr hst HU HD h1;go_wp2_with fail
    refine(Aa HON _ hB).mono ?_;rintro e w1 ⟨rfl,hb1⟩;have hB1:=hB.trans (hb1.mono hBs);have hs1:=hB1.size;clear hb1;go_wp2;refine bodyPost_ret (v:=.tuple #[.slice none 0 0,.int .i64 (p:Int),.bool false]) (by simp[results,Tryz.results108,go_sem]) rfl ?_;have hp0:(0:Int)≤(p:Int):=by omega
    rw[Aa HL,Aa HP,Aa HBo,Aa HF,if_pos hp0,if_pos hp0];exact⟨none,0,by simp,World.ownsRow_nil _ _ _ _,by repeat (first | refine Below.drew ?_ | refine Below.alloc ?_ (by first | omega | (simp;omega)) _ | exact hB1)⟩
  ·have hu:=Aa HU;have hd:=Aa HD;rw[Cd.starts_end (by omega)]at hu hd;have hU1:U = -1:=by rw[← hu];rfl
   rw[List.append_nil]at hd;have HU1:=Ac hU1;have HD1:=Ac hd;have kb:¬ (p:Int)<(c.length:Int):=by omega
   clear hu hd hU1 HU HD;go_wp2;refine bodyPost_ret (v:=.tuple #[.slice ua done.length uc,.int .i64 0,.bool true]) (by simp[results,Tryz.results108,go_sem]) rfl ?_;have hn1:¬ (0:Int)≤-1:=by omega
   rw[Aa HL,Aa HP,Aa HBo,Aa HU1,if_neg hn1,if_neg hn1];unfold Cd.insts;rw[← Aa HD1];exact⟨ua,uc,by simp,by unfold InsAt;simpa using hown,hB⟩
end Go.Proofs.YtpcgnjolfahacaaGreat
namespace Go.Proofs.YtpcgnjolfahacaaGreat.Cd
theorem Oz (c:List Int) (place:Int) (ps:List Nat):(findAt place (ps.map (insAt c))).isSome=ps.any fun p=>(p:Int)==place:=by
 induction ps with
 | nil=>rfl
 | cons p r ih =>
  rw[List.map_cons,findAt,List.any_cons];by_cases h:(insAt c p).place=place
  ·rw[if_pos h];have:((p:Int)==place)=true:=by simpa[insAt] using h
   rw[this];rfl
  ·rw[if_neg h,ih];have:((p:Int)==place)=false:=by simpa[insAt] using h
   rw[this];rfl
theorem find_beg (c:List Int) (place:Int):(findAt place (insts c)).isSome=begB c place:=Oz c place (places c)
theorem find_at (c:List Int) (place:Int) (ps:List Nat) (h:(findAt place (ps.map (insAt c))).isSome=true):(orZero (findAt place (ps.map (insAt c))))=insAt c place.toNat∧0≤place:=by
 induction ps with
 | nil=>simp[findAt]at h
 | cons p r ih =>
  rw[List.map_cons,findAt]at h ⊢;by_cases hp:(insAt c p).place=place
  ·rw[if_pos hp];have:(p:Int)=place:=hp;subst this;exact⟨by simp[orZero],by omega⟩
  ·rw[if_neg hp]at h ⊢;exact ih h
theorem Aac (c:List Int) (place:Int):((findAt place (insts c)).isSome&&((orZero (findAt place (insts c))).op==15))=(begB c place&&(c.getD place.toNat 0==15)):=by
 rw[find_beg];cases h:begB c place with
 | false=>rfl
 | true =>
  have:=(find_at c place (places c) (by rw[Oz];exact h)).1;unfold insts;rw[this];rfl
end Go.Proofs.YtpcgnjolfahacaaGreat.Cd
namespace Go.Proofs.YtpcgnjolfahacaaGreat
open Go.RowKit
structure PBd where
 fa1:Option Addr
 fl1:Nat
 fc1:Nat
 fa2:Option Addr
 fl2:Nat
 fc2:Nat
 tg:Nat
 tc:Nat
 ya:Option Addr
 yn:Nat
 yc:Nat
 cl:Int
 nm:Int
 pa:Option Addr
 pl:Nat
 pc:Nat
 r1:Int
 r2:Int
 lo:Int
 st:Int
 ca:Option Addr
 cn:Nat
 cc:Nat
 ha:Option Addr
 hl:Nat
 hc:Nat
 ma:Option Addr
 ml:Nat
 mc:Nat
 la:Option Addr
 lc:Nat
 T:List Int
 L:List Cd.Ins
def PBd.val (b:PBd):Value:=.agg #[.slice b.fa1 b.fl1 b.fc1,.slice b.fa2 b.fl2 b.fc2,.slice (some ⟨b.tg,0,none⟩) b.T.length b.tc,.slice b.ya b.yn b.yc,.int .i64 b.cl,.int .i64 b.nm,.slice b.pa b.pl b.pc,.int .i64 b.r1,.int .i64 b.r2,.int .i64 b.lo,.int .i64 b.st,.slice b.ca b.cn b.cc,.slice b.ha b.hl b.hc,.slice b.ma b.ml b.mc,.slice b.la b.L.length b.lc]
def PBd.ok (b:PBd) (w:World) (bb:Nat):Prop:=b.T.length≤1000∧b.L.length≤100000∧TreeIn w b.tg b.T∧InsAt w bb (.slice b.la b.L.length b.lc) b.L
theorem PBd.ok.below {b:PBd}{w w':World}{bb:Nat} (h:b.ok w bb) (hb:Below w.heap.size w w'):b.ok w' bb :=
 ⟨h.1,h.2.1,h.2.2.1.below hb,h.2.2.2.kp (Kp.of_below (e:=none) hb) (by decide)⟩
def Cd.mapTy (T:List Int) (L:List Cd.Ins) (k n:Int):Bool:=if k=4 then (Cd.findAt n L).isSome&&((Cd.orZero (Cd.findAt n L)).op==15) else Tr.settledB T k n
theorem Xv (b:PBd) (bb:Nat) (k n:Int) (w:World) (hb:b.ok w bb) :
  Calls Tryz.prog 303 #[b.val,.agg #[.int .i64 k,.int .i64 n]] w fun e w'=>e=.returned (.bool (Cd.mapTy b.T b.L k n))∧Below w.heap.size w w':=by
 have hN:=fun w (h:b.ok w bb)=>V6 b.L b.la b.lc bb n w h.2.1 h.2.2.2;have hS:=fun w=>Py (ya:=b.ya) (yn:=b.yn) (yc:=b.yc) b.T (some ⟨b.tg,0,none⟩) b.tc k n w;have HOK:∀ w',Below w.heap.size w w'→b.ok w' bb:=fun w' h=>hb.below h;generalize hR:Cd.mapTy b.T b.L k n=R;unfold Cd.mapTy at hR;obtain⟨fa1,fl1,fc1,fa2,fl2,fc2,tg,tc,ya,yn,yc,cl,nm,pa,pl,pc,r1,r2,lo,st,ca,cn,cc,ha,hl,hc,ma,ml,mc,la,lc,T,L⟩:=b;simp only[PBd.val]at hN hS hR ⊢;have HN:=Ac hN;have HS:=Ac hS;have HO:=Ac HOK;clear hN hS HOK hb;by_cases h4:k=4
 ·rw[if_pos h4]at hR;subst h4;have HR:=Ac hR;clear hR;go_enter Tryz.func303,Tryz.ntmps303;go_wp2_with fail
  refine(Aa HN _ (Aa HO _ (Ai _ _ _))).mono ?_;rintro e w1 ⟨rfl,hb1⟩;go_wp2;go_ret;exact⟨by rw[← Aa HR];rfl,(Ai _ _ _).trans (hb1.mono (by simp;omega))⟩
 ·rw[if_neg h4]at hR;have h4':(k==4)=false:=by simp[h4]
  have HR:=Ac hR;clear hR h4;go_enter Tryz.func303,Tryz.ntmps303;go_wp2_with fail
  refine(Aa HS _).mono ?_;rintro e w1 ⟨rfl,hb1⟩;go_wp2;go_ret;exact⟨by rw[← Aa HR];rfl,(Ai _ _ _).trans (hb1.mono (by simp;omega))⟩
def Cd.mapTys (T:List Int) (L:List Cd.Ins) (l:List (Int × Int)):Bool:=l.all fun t=>Cd.mapTy T L t.1 t.2
theorem M3 (b:PBd) (bb b2:Nat) (l:List (Int × Int)) (va:Option Addr) (vc:Nat) (w:World) (hb:b.ok w bb) (hl:l.length≤1000) (ht:TysAt w b2 (.slice va l.length vc) l) :
  Calls Tryz.prog 288 #[b.val,.slice va l.length vc] w fun e w'=>e=.returned (.bool (Cd.mapTys b.T b.L l))∧Below w.heap.size w w':=by
 have hM:=fun k n w (h:b.ok w bb)=>Xv b bb k n w h;have HOK:∀ w',Below w.heap.size w w'→b.ok w' bb:=fun w' h=>hb.below h;have HTY:∀ w',Below w.heap.size w w'→TysAt w' b2 (.slice va l.length vc) l:=fun w' h=>ht.kp (Kp.of_below (e:=none) h) (by decide);generalize hR:Cd.mapTys b.T b.L l=R;have HR:Hid (Cd.mapTys b.T b.L (l.drop 0)=R):=hR;clear hR;obtain⟨fa1,fl1,fc1,fa2,fl2,fc2,tg,tc,ya,yn,yc,cl,nm,pa,pl,pc,r1,r2,lo,st,ca,cn,cc,ha,hl',hc,ma,ml,mc,la,lc,T,L⟩:=b;simp only[PBd.val]at hM HR ⊢;have HM:=Ac hM;have HO:=Ac HOK;have HT:=Ac HTY;clear hM HOK HTY hb ht;have hB0:Below w.heap.size w (w.alloc (O10 fa1 fl1 fc1 fa2 fl2 fc2 (some ⟨tg,0,none⟩) T.length tc ya yn yc cl nm pa pl pc r1 r2 lo st ca cn cc ha hl' hc ma ml mc la L.length lc)):=QN _;have C0:=Ad w (O10 fa1 fl1 fc1 fa2 fl2 fc2 (some ⟨tg,0,none⟩) T.length tc ya yn yc cl nm pa pl pc r1 r2 lo st ca cn cc ha hl' hc ma ml mc la L.length lc);go_enter Tryz.func288,Tryz.ntmps288;go_wp2
 go_loopw [9] (fun v wr=>∃ k:Nat,k≤l.length∧v=.int .i64 (k:Int)∧Hid (Cd.mapTys T L (l.drop k)=R)∧Below w.heap.size w wr ∧
   wr.heap[w.heap.size]?=some (O10 fa1 fl1 fc1 fa2 fl2 fc2 (some ⟨tg,0,none⟩) T.length tc ya yn yc cl nm pa pl pc r1 r2 lo st ca cn cc ha hl' hc ma ml mc la L.length lc))
  (fun v _=>l.length-(intOf v).toNat)
 case atStart=>exact⟨0,by omega,rfl,HR,hB0,C0⟩
 case round =>
  clear hB0 C0 HR;obtain⟨k,hk,rfl,HR,hB,CB⟩:=hrel;obtain⟨m0,m1,m2,m3,m4,m5,m6,m7,m8,m9,m10,m11,m12,m13,m14⟩:=Hl CB;simp at m0 m1 m2 m3 m4 m5 m6 m7 m8 m9 m10 m11 m12 m13 m14;have hBs:=hB.size;have lB:=lt_of_block CB;by_cases hkn:k<l.length
  ·obtain⟨g,hg,hglt,_,hcell⟩:=Ao (Aa HT _ hB) (by omega);obtain⟨e1,e2,e3⟩:=Db l k hkn;have u0:=(hcell (k*2) (by omega)).trans e1;have u1:=(hcell (k*2+1) (by omega)).trans e2;have hd:l.drop k=l[k]::l.drop (k+1):=List.drop_eq_getElem_cons hkn;have hr:=Aa HR;unfold Cd.mapTys at hr;rw[hd,List.all_cons]at hr;generalize l[k]=t at *;obtain⟨t1,t2⟩:=t;simp only at u0 u1 hr;have hm:=fun w h=>Aa HM t1 t2 w h;generalize Cd.mapTy T L t1 t2=Z at *;have HZ:=Ac hm;have HRR:=Ac hr;have kb:(k:Int)<(l.length:Int):=by omega
   have CB1:=Af CB (O7 t1 t2);have hB1:=hB.alloc hBs (O7 t1 t2);clear hm hr hd hcell e1 e2 e3 HR;subst hg;go_wp2_with fail
   refine(Aa HZ _ (Aa HO _ hB1)).mono ?_;rintro e w2 ⟨rfl,hb2⟩;have hB2:=QB hB1 hb2;have CB2:=stay hb2 CB1;clear hb2 hB1 CB1 CB hB u0 u1 m0 m1 m2 m3 m4 m5 m6 m7 m8 m9 m10 m11 m12 m13 m14;cases Z with
   | false =>
    have HF:Hid (R=false):=by unfold Hid;rw[← Aa HRR];simp
    clear HRR;go_wp2;go_ret;exact⟨by rw[Aa HF];rfl,hB2⟩
   | true =>
    have HF:Hid (Cd.mapTys T L (l.drop (k+1))=R):=by unfold Hid Cd.mapTys;rw[← Aa HRR];simp
    clear HRR;go_wp2
    go_roundw
    case rel=>exact⟨k+1,by omega,by go_num,HF,hB2,CB2⟩
    case measure=>simp[intOf];omega
  ·have HF:Hid (R=true):=by unfold Hid;rw[← Aa HR,List.drop_eq_nil_of_le (by omega)];rfl
   have kb:¬ (k:Int)<(l.length:Int):=by omega
   clear HR;go_wp2;go_ret;exact⟨by rw[Aa HF];rfl,hB⟩
def Cd.mapMay (T:List Int) (L:List Cd.Ins) (x:Rd.Mp):Bool:=(Cd.findAt x.place L).isSome&&(Cd.mapTys T L x.locals&&Cd.mapTys T L x.stack)
theorem V5 (b:PBd) (bb b2:Nat) (x:Rd.Mp) (v1a v2a:Option Addr) (v1c v2c:Nat) (w:World) (hb:b.ok w bb) (hl1:x.locals.length≤1000) (hl2:x.stack.length≤1000) (ht1:TysAt w b2 (.slice v1a x.locals.length v1c) x.locals) (ht2:TysAt w b2 (.slice v2a x.stack.length v2c) x.stack) :
  Calls Tryz.prog 259 #[b.val,.agg #[.int .i64 x.place,.slice v1a x.locals.length v1c,.slice v2a x.stack.length v2c]] w fun e w'=>e=.returned (.bool (Cd.mapMay b.T b.L x))∧Below w.heap.size w w':=by
 have hBe:=fun w (h:b.ok w bb)=>Hy b.L b.la b.lc bb x.place w h.2.1 h.2.2.2;have hM1:=fun w' (h:Below w.heap.size w w')=>M3 b bb b2 x.locals v1a v1c w' (hb.below h) hl1 (ht1.kp (Kp.of_below (e:=none) h) (by decide));have hM2:=fun w' (h:Below w.heap.size w w')=>M3 b bb b2 x.stack v2a v2c w' (hb.below h) hl2 (ht2.kp (Kp.of_below (e:=none) h) (by decide));have HOK:∀ w',Below w.heap.size w w'→b.ok w' bb:=fun w' h=>hb.below h;obtain⟨plc,loc,stk⟩:=x;unfold Cd.mapMay;simp only at hBe hM1 hM2 ⊢;generalize Cd.mapTys b.T b.L loc=M1 at *;generalize Cd.mapTys b.T b.L stk=M2 at *;generalize (Cd.findAt plc b.L).isSome=B at *;obtain⟨fa1,fl1,fc1,fa2,fl2,fc2,tg,tc,ya,yn,yc,cl,nm,pa,pl,pc,r1,r2,lo,st,ca,cn,cc,ha,hl',hc,ma,ml,mc,la,lc,T,L⟩:=b;simp only[PBd.val]at hBe hM1 hM2 ⊢;have HBe:=Ac hBe;have HM1:=Ac hM1;have HM2:=Ac hM2;have HO:=Ac HOK;clear hBe hM1 hM2 HOK hb ht1 ht2;cases B with
 | false =>
  go_enter Tryz.func259,Tryz.ntmps259;go_wp2_with fail
  refine(Aa HBe _ (Aa HO _ (Ai _ _ _))).mono ?_;rintro e w1 ⟨rfl,hb1⟩;go_wp2;go_ret;exact⟨rfl,(Ai _ _ _).trans (hb1.mono (by simp;omega))⟩
 | true =>
  cases M1 with
  | false =>
   go_enter Tryz.func259,Tryz.ntmps259;go_wp2_with fail
   refine(Aa HBe _ (Aa HO _ (Ai _ _ _))).mono ?_;rintro e w1 ⟨rfl,hb1⟩;have hB1:=(Ai w _ _).trans (hb1.mono (by simp;omega));have CB:=stay hb1 (Ak w _ _);have CX:=stay hb1 (Ah w _ _);clear hb1;obtain⟨m0,m1,m2,m3,m4,m5,m6,m7,m8,m9,m10,m11,m12,m13,m14⟩:=Hl CB;simp at m0 m1 m2 m3 m4 m5 m6 m7 m8 m9 m10 m11 m12 m13 m14;have x1:=Ab CX 1;have x2:=Ab CX 2;simp at x1 x2;go_wp2_with fail
   refine(Aa HM1 _ hB1).mono ?_;rintro e w2 ⟨rfl,hb2⟩;go_wp2;go_ret;exact⟨rfl,QB hB1 hb2⟩
  | true =>
   go_enter Tryz.func259,Tryz.ntmps259;go_wp2_with fail
   refine(Aa HBe _ (Aa HO _ (Ai _ _ _))).mono ?_;rintro e w1 ⟨rfl,hb1⟩;have hB1:=(Ai w _ _).trans (hb1.mono (by simp;omega));have CB:=stay hb1 (Ak w _ _);have CX:=stay hb1 (Ah w _ _);clear hb1;obtain⟨m0,m1,m2,m3,m4,m5,m6,m7,m8,m9,m10,m11,m12,m13,m14⟩:=Hl CB;simp at m0 m1 m2 m3 m4 m5 m6 m7 m8 m9 m10 m11 m12 m13 m14;have x1:=Ab CX 1;have x2:=Ab CX 2;simp at x1 x2;go_wp2_with fail
   refine(Aa HM1 _ hB1).mono ?_;rintro e w2 ⟨rfl,hb2⟩;have hB2:=QB hB1 hb2;have CB2:=stay hb2 CB;have CX2:=stay hb2 CX;clear hb2 x1 x2 m0 m1 m2 m3 m4 m5 m6 m7 m8 m9 m10 m11 m12 m13 m14 CB CX;obtain⟨m0,m1,m2,m3,m4,m5,m6,m7,m8,m9,m10,m11,m12,m13,m14⟩:=Hl CB2;simp at m0 m1 m2 m3 m4 m5 m6 m7 m8 m9 m10 m11 m12 m13 m14;have x2:=Ab CX2 2;simp at x2;go_wp2_with fail
   refine(Aa HM2 _ hB2).mono ?_;rintro e w3 ⟨rfl,hb3⟩;go_wp2;go_ret;exact⟨by simp,QB hB2 hb3⟩
def Cd.hndMay (T:List Int) (L:List Cd.Ins) (cn:Int) (x:Rd.Hnd):Bool :=
 if x.til≤x.frm then false else if (Cd.findAt x.frm L).isSome=false then false else if (Cd.findAt x.target L).isSome=false then false
 else if x.til≠cn∧(Cd.findAt x.til L).isSome=false then false else Tr.within T x.cl 1
theorem Vv (b:PBd) (bb:Nat) (x:Rd.Hnd) (w:World) (hb:b.ok w bb) :
  Calls Tryz.prog 215 #[b.val,.agg #[.int .i64 x.frm,.int .i64 x.til,.int .i64 x.target,.int .i64 x.cl]] w fun e w'=>e=.returned (.bool (Cd.hndMay b.T b.L (b.cn:Int) x))∧Below w.heap.size w w':=by
 have hBe:=fun p w (h:b.ok w bb)=>Hy b.L b.la b.lc bb p w h.2.1 h.2.2.2;have hBl:=fun w (h:b.ok w bb)=>Df (ya:=b.ya) (yn:=b.yn) (yc:=b.yc) b.T b.tg b.tc x.cl 1 w h.1 h.2.2.1;have HOK:∀ w',Below w.heap.size w w'→b.ok w' bb:=fun w' h=>hb.below h;obtain⟨frm,til,tgt,xcl⟩:=x;generalize hR:Cd.hndMay b.T b.L (b.cn:Int) ⟨frm,til,tgt,xcl⟩=R;unfold Cd.hndMay at hR;simp only at hBl hR ⊢;have h1:=fun w h=>hBe frm w h;have h2:=fun w h=>hBe tgt w h;have h3:=fun w h=>hBe til w h;generalize (Cd.findAt frm b.L).isSome=A at *;generalize (Cd.findAt tgt b.L).isSome=C at *;generalize (Cd.findAt til b.L).isSome=B at *;generalize Tr.within b.T xcl 1=D at *;obtain⟨fa1,fl1,fc1,fa2,fl2,fc2,tg,tc,ya,yn,yc,cl,nm,pa,pl,pc,r1,r2,lo,st,ca,cn,cc,ha,hl',hc,ma,ml,mc,la,lc,T,L⟩:=b;simp only[PBd.val]at h1 h2 h3 hBl hR ⊢;have HA:=Ac h1;have HC:=Ac h2;have HB:=Ac h3;have HD:=Ac hBl;have HO:=Ac HOK;clear hBe h1 h2 h3 hBl HOK hb;by_cases h1:til≤frm
 ·have HR:Hid (R=false):=by unfold Hid;rw[← hR];simp[h1]
  clear hR;go_enter Tryz.func215,Tryz.ntmps215;go_wp2;go_ret;exact⟨by rw[Aa HR];rfl,Ai _ _ _⟩
 ·cases A with
  | false =>
   have HR:Hid (R=false):=by unfold Hid;rw[← hR];simp
   clear hR;go_enter Tryz.func215,Tryz.ntmps215;go_wp2_with fail
   refine(Aa HA _ (Aa HO _ (Ai _ _ _))).mono ?_;rintro e w1 ⟨rfl,hb1⟩;have hB1:=(Ai w _ _).trans (hb1.mono (by simp;omega));have CB1:=stay hb1 (Ak w _ _);have CX1:=stay hb1 (Ah w _ _);clear hb1;have m2:=Ab CB1 2;have m3:=Ab CB1 3;have m11:=Ab CB1 11;have m14:=Ab CB1 14;obtain⟨x0,x1,x2,x3⟩:=cl4 CX1;simp at m2 m3 m11 m14 x0 x1 x2 x3;go_wp2;go_ret;exact⟨by rw[Aa HR];rfl,hB1⟩
  | true =>
   cases C with
   | false =>
    have HR:Hid (R=false):=by unfold Hid;rw[← hR];simp
    clear hR;go_enter Tryz.func215,Tryz.ntmps215;go_wp2_with fail
    refine(Aa HA _ (Aa HO _ (Ai _ _ _))).mono ?_;rintro e w1 ⟨rfl,hb1⟩;have hB1:=(Ai w _ _).trans (hb1.mono (by simp;omega));have CB1:=stay hb1 (Ak w _ _);have CX1:=stay hb1 (Ah w _ _);clear hb1;have m2:=Ab CB1 2;have m3:=Ab CB1 3;have m11:=Ab CB1 11;have m14:=Ab CB1 14;obtain⟨x0,x1,x2,x3⟩:=cl4 CX1;simp at m2 m3 m11 m14 x0 x1 x2 x3;go_wp2_with fail
    refine(Aa HC _ (Aa HO _ hB1)).mono ?_;rintro e w2 ⟨rfl,hb2⟩;have hB2:=QB hB1 hb2;have CB2:=stay hb2 CB1;have CX2:=stay hb2 CX1;clear hb2 m2 m3 m11 m14 x0 x1 x2 x3 CB1 CX1;have m2:=Ab CB2 2;have m3:=Ab CB2 3;have m11:=Ab CB2 11;have m14:=Ab CB2 14;obtain⟨x0,x1,x2,x3⟩:=cl4 CX2;simp at m2 m3 m11 m14 x0 x1 x2 x3;go_wp2;go_ret;exact⟨by rw[Aa HR];rfl,hB2⟩
   | true =>
    by_cases h2:til=(cn:Int)
    ·have h2':(til != (cn:Int))=false:=by simp[h2]
     have h1':¬ (cn:Int)≤frm:=by omega
     have HH2:=Ac h2;have HR:Hid (R=D):=by unfold Hid;rw[← hR];simp[h2,h1']
     clear hR;go_enter Tryz.func215,Tryz.ntmps215;clear h2;go_wp2_with fail
     refine(Aa HA _ (Aa HO _ (Ai _ _ _))).mono ?_;rintro e w1 ⟨rfl,hb1⟩;have hB1:=(Ai w _ _).trans (hb1.mono (by simp;omega));have CB1:=stay hb1 (Ak w _ _);have CX1:=stay hb1 (Ah w _ _);clear hb1;have m2:=Ab CB1 2;have m3:=Ab CB1 3;have m11:=Ab CB1 11;have m14:=Ab CB1 14;obtain⟨x0,x1,x2,x3⟩:=cl4 CX1;simp at m2 m3 m11 m14 x0 x1 x2 x3;go_wp2_with fail
     refine(Aa HC _ (Aa HO _ hB1)).mono ?_;rintro e w2 ⟨rfl,hb2⟩;have hB2:=QB hB1 hb2;have CB2:=stay hb2 CB1;have CX2:=stay hb2 CX1;clear hb2 m2 m3 m11 m14 x0 x1 x2 x3 CB1 CX1;have m2:=Ab CB2 2;have m3:=Ab CB2 3;have m11:=Ab CB2 11;have m14:=Ab CB2 14;obtain⟨x0,x1,x2,x3⟩:=cl4 CX2;simp at m2 m3 m11 m14 x0 x1 x2 x3;go_wp2_with fail
     refine(Aa HD _ (Aa HO _ hB2)).mono ?_;rintro e w9 ⟨rfl,hb9⟩;go_wp2;go_ret;exact⟨by rw[Aa HR];rfl,QB hB2 hb9⟩
    ·have h2':(til != (cn:Int))=true:=by simp[h2]
     cases B with
     | false =>
      have HR:Hid (R=false):=by unfold Hid;rw[← hR];simp[h2]
      clear hR;go_enter Tryz.func215,Tryz.ntmps215;go_wp2_with fail
      refine(Aa HA _ (Aa HO _ (Ai _ _ _))).mono ?_;rintro e w1 ⟨rfl,hb1⟩;have hB1:=(Ai w _ _).trans (hb1.mono (by simp;omega));have CB1:=stay hb1 (Ak w _ _);have CX1:=stay hb1 (Ah w _ _);clear hb1;have m2:=Ab CB1 2;have m3:=Ab CB1 3;have m11:=Ab CB1 11;have m14:=Ab CB1 14;obtain⟨x0,x1,x2,x3⟩:=cl4 CX1;simp at m2 m3 m11 m14 x0 x1 x2 x3;go_wp2_with fail
      refine(Aa HC _ (Aa HO _ hB1)).mono ?_;rintro e w2 ⟨rfl,hb2⟩;have hB2:=QB hB1 hb2;have CB2:=stay hb2 CB1;have CX2:=stay hb2 CX1;clear hb2 m2 m3 m11 m14 x0 x1 x2 x3 CB1 CX1;have m2:=Ab CB2 2;have m3:=Ab CB2 3;have m11:=Ab CB2 11;have m14:=Ab CB2 14;obtain⟨x0,x1,x2,x3⟩:=cl4 CX2;simp at m2 m3 m11 m14 x0 x1 x2 x3;go_wp2_with fail
      refine(Aa HB _ (Aa HO _ hB2)).mono ?_;rintro e w3 ⟨rfl,hb3⟩;have hB3:=QB hB2 hb3;have CB3:=stay hb3 CB2;have CX3:=stay hb3 CX2;clear hb3 m2 m3 m11 m14 x0 x1 x2 x3 CB2 CX2;have m2:=Ab CB3 2;have m3:=Ab CB3 3;have m11:=Ab CB3 11;have m14:=Ab CB3 14;obtain⟨x0,x1,x2,x3⟩:=cl4 CX3;simp at m2 m3 m11 m14 x0 x1 x2 x3;go_wp2;go_ret;exact⟨by rw[Aa HR];rfl,hB3⟩
     | true =>
      have HR:Hid (R=D):=by unfold Hid;rw[← hR];simp[h1,h2]
      clear hR;go_enter Tryz.func215,Tryz.ntmps215;go_wp2_with fail
      refine(Aa HA _ (Aa HO _ (Ai _ _ _))).mono ?_;rintro e w1 ⟨rfl,hb1⟩;have hB1:=(Ai w _ _).trans (hb1.mono (by simp;omega));have CB1:=stay hb1 (Ak w _ _);have CX1:=stay hb1 (Ah w _ _);clear hb1;have m2:=Ab CB1 2;have m3:=Ab CB1 3;have m11:=Ab CB1 11;have m14:=Ab CB1 14;obtain⟨x0,x1,x2,x3⟩:=cl4 CX1;simp at m2 m3 m11 m14 x0 x1 x2 x3;go_wp2_with fail
      refine(Aa HC _ (Aa HO _ hB1)).mono ?_;rintro e w2 ⟨rfl,hb2⟩;have hB2:=QB hB1 hb2;have CB2:=stay hb2 CB1;have CX2:=stay hb2 CX1;clear hb2 m2 m3 m11 m14 x0 x1 x2 x3 CB1 CX1;have m2:=Ab CB2 2;have m3:=Ab CB2 3;have m11:=Ab CB2 11;have m14:=Ab CB2 14;obtain⟨x0,x1,x2,x3⟩:=cl4 CX2;simp at m2 m3 m11 m14 x0 x1 x2 x3;go_wp2_with fail
      refine(Aa HB _ (Aa HO _ hB2)).mono ?_;rintro e w3 ⟨rfl,hb3⟩;have hB3:=QB hB2 hb3;have CB3:=stay hb3 CB2;have CX3:=stay hb3 CX2;clear hb3 m2 m3 m11 m14 x0 x1 x2 x3 CB2 CX2;have m2:=Ab CB3 2;have m3:=Ab CB3 3;have m11:=Ab CB3 11;have m14:=Ab CB3 14;obtain⟨x0,x1,x2,x3⟩:=cl4 CX3;simp at m2 m3 m11 m14 x0 x1 x2 x3;go_wp2_with fail
      refine(Aa HD _ (Aa HO _ hB3)).mono ?_;rintro e w9 ⟨rfl,hb9⟩;go_wp2;go_ret;exact⟨by rw[Aa HR];rfl,QB hB3 hb9⟩
theorem Aeu (l:List (Rd.Mth × MthV)) (k:Nat) (hk:k<l.length):(Bx l)[k*10]?=some (.int .i64 l[k].1.cl)∧k*10<(Bx l).length:=by
 have h:=Fp (fun x:Rd.Mth × MthV=>Cl x.1 x.2) 10 (fun _=>rfl) l k hk 0 (by omega);have h2:=En (fun x:Rd.Mth × MthV=>Cl x.1 x.2) 10 (fun _=>rfl) l;refine⟨?_,?_⟩
 ·unfold Bx;rw[show k*10=k*10+0 by omega,h];rfl
 ·unfold Bx;rw[h2];omega
def Cd.hasM (ow:List Int) (n:Int) (ofc:Bool):Bool:=if n<0 then false else if (ow.length:Int)≤n then false else ((ow.getD n.toNat 0 != 255)==ofc)
theorem Aby (b:PBd) (bm:Nat) (lm:List (Rd.Mth × MthV)) (n:Int) (ofc:Bool) (w:World) (hfl:b.fl2=lm.length) (hm6:lm.length≤1000) (hm:MthsIn w bm (.slice b.fa2 b.fl2 b.fc2) lm) :
  Calls Tryz.prog 257 #[b.val,.int .i64 n,.bool ofc] w fun e w'=>e=.returned (.bool (Cd.hasM (lm.map fun p=>p.1.cl) n ofc))∧Below w.heap.size w w':=by
 unfold Cd.hasM;rw[List.length_map];obtain⟨fa1,fl1,fc1,fa2,fl2,fc2,tg,tc,ya,yn,yc,cl,nm,pa,pl,pc,r1,r2,lo,st,ca,cn,cc,ha,hl',hc,ma,ml,mc,la,lc,T,L⟩:=b;simp only at hfl hm;subst hfl;simp only[PBd.val];by_cases h1:n<0
 ·rw[if_pos h1];go_enter Tryz.func257,Tryz.ntmps257;go_wp2;go_ret;exact⟨rfl,QN _⟩
 ·rw[if_neg h1];by_cases h2:(lm.length:Int)≤n
  ·rw[if_pos h2];go_enter Tryz.func257,Tryz.ntmps257;go_wp2;go_ret;exact⟨rfl,QN _⟩
  ·rw[if_neg h2];obtain⟨q,rfl⟩:=Int.eq_ofNat_of_zero_le (show 0≤n by omega);have hq:q<lm.length:=by omega
   obtain⟨g,hg,hglt,_,hcell⟩:=Ao hm.1 (by omega);obtain⟨e1,e2⟩:=Aeu lm q hq;have y0:=(hcell _ e2).trans e1;have ho:(lm.map fun p=>p.1.cl).getD q 0=lm[q].1.cl:=by simp[List.getD_eq_getElem?_getD,hq]
   rw[Int.toNat_natCast,ho];generalize lm[q].1.cl=oc at *;have kb:(q:Int)<(lm.length:Int):=by omega
   clear ho e1 e2 hcell hm;subst hg;go_enter Tryz.func257,Tryz.ntmps257;go_wp2;go_ret;exact⟨rfl,QN _⟩
def Cd.fieldSum:List Rd.Cls→Nat
 | []=>0
 | c::r=>c.fields.length+Cd.fieldSum r
theorem Nu (a1 a2:Option Addr) (c1 n2 c2 bb:Nat) (l:List (Rd.Cls × Value)) (w:World) (hl:l.length≤6) (hfl:∀ p∈l,p.1.fields.length≤1000) (hc:ClssIn w bb (.slice a1 l.length c1) l) :
  Calls Tryz.prog 256 #[.agg #[.slice a1 l.length c1,.slice a2 n2 c2]] w fun e w'=>e=.returned (.int .i64 (Cd.fieldSum (l.map Prod.fst):Int))∧Below w.heap.size w w':=by
 generalize hR:(Cd.fieldSum (l.map Prod.fst):Int)=R;have HR:Hid (((0+Cd.fieldSum ((l.map Prod.fst).drop 0):Nat):Int)=R):=by unfold Hid;rw[← hR];simp
 clear hR;have hB0:Below w.heap.size w (w.alloc (O1 a1 l.length c1 a2 n2 c2)):=QN _;go_enter Tryz.func256,Tryz.ntmps256;go_wp2
 go_loopw [3,9] (fun u v wr=>∃ k t:Nat,k≤l.length∧v=.int .i64 (k:Int)∧u=.int .i64 (t:Int)∧t≤1000*k∧Hid (((t+Cd.fieldSum ((l.map Prod.fst).drop k):Nat):Int)=R)∧Below w.heap.size w wr)
  (fun _ v _=>l.length-(intOf v).toNat)
 case atStart=>exact⟨0,0,by omega,rfl,rfl,by omega,HR,hB0⟩
 case round =>
  clear HR hB0;obtain⟨k,t,hk,rfl,rfl,htk,HR,hB⟩:=hrel;have hBs:=hB.size;by_cases hkn:k<l.length
  ·have hcr:=hc.kp (Kp.of_below (e:=none) hB) (by decide) (by decide);obtain⟨g,hg,hglt,_,hcell⟩:=Ao hcr.1 (by omega);obtain⟨e1,e2,e3⟩:=Hs l k hkn;have x0:=(hcell _ (by omega)).trans e1;have x1:=(hcell _ e3).trans e2;obtain⟨ua,uc,hu⟩:=Ae (hcr.2 _ (List.getElem_mem hkn));rw[hu]at x1;have hfk:=hfl _ (List.getElem_mem hkn);have hd:(l.map Prod.fst).drop k=l[k].1::(l.map Prod.fst).drop (k+1):=by
    rw[List.drop_eq_getElem_cons (by simpa using hkn)]
    simp
   have hr:=Aa HR;rw[hd,Cd.fieldSum]at hr;generalize l[k].1.fields.length=fl at *;generalize l[k].1.above=ab at *;have HRR:Hid (((t+fl+Cd.fieldSum ((l.map Prod.fst).drop (k+1)):Nat):Int)=R):=by unfold Hid;rw[← hr];omega
   have kb:(k:Int)<(l.length:Int):=by omega
   have hB1:=hB.alloc hBs (O5 ab ua fl uc);clear hr hd hcell e1 e2 e3 hcr hu HR;subst hg;go_wp2
   go_roundw
   case rel=>exact⟨k+1,t+fl,by omega,by go_num,by go_num,by omega,HRR,hB1⟩
   case measure=>simp[intOf];omega
  ·have HF:Hid ((t:Int)=R):=by unfold Hid;rw[← Aa HR,List.drop_eq_nil_of_le (by simp;omega)];simp[Cd.fieldSum]
   have kb:¬ (k:Int)<(l.length:Int):=by omega
   clear HR;go_wp2;go_ret;exact⟨by rw[← Aa HF];rfl,hB⟩
def Cd.argP (T:List Int) (nf:Int) (ow:List Int) (lo:Int) (L:List Cd.Ins) (op n:Int):Bool :=
 if op=2∨op=3 then decide (n<lo)
 else if 11≤op∧op≤14 then (Cd.findAt n L).isSome
 else if op=15∨op=16∨op=19 then Tr.hasB T n
 else if op=17∨op=18 then decide (n<nf)
 else if op=20 then Cd.hasM ow n false
 else if op=21 then Cd.hasM ow n true
 else true
theorem Yg (b:PBd) (bb bm:Nat) (lcs:List (Rd.Cls × Value)) (lm:List (Rd.Mth × MthV)) (p op n:Int) (w:World) (hb:b.ok w bb) (hfl1:b.fl1=lcs.length) (hfl2:b.fl2=lm.length) (hm6:lm.length≤1000) (hc6:lcs.length≤6) (hcf:∀ p∈lcs,p.1.fields.length≤1000)
  (hcs:ClssIn w bm (.slice b.fa1 b.fl1 b.fc1) lcs) (hms:MthsIn w bm (.slice b.fa2 b.fl2 b.fc2) lm) :
  Calls Tryz.prog 214 #[b.val,.agg #[.int .i64 p,.int .i64 op,.int .i64 n]] w fun e w' =>
   e=.returned (.bool (Cd.argP b.T (Cd.fieldSum (lcs.map Prod.fst):Int) (lm.map fun p=>p.1.cl) b.lo b.L op n))∧Below w.heap.size w w':=by
 have hBe:=fun w (h:b.ok w bb)=>Hy b.L b.la b.lc bb n w h.2.1 h.2.2.2;have hHa:=fun w=>Nv (ya:=b.ya) (yn:=b.yn) (yc:=b.yc) b.T (some ⟨b.tg,0,none⟩) b.tc n w;have hHM:=fun o w' (h:Below w.heap.size w w')=>Aby b bm lm n o w' hfl2 hm6 (hms.kp (Kp.of_below (e:=none) h) (by decide) (by decide) (by decide) (by decide) (by decide));have hFC:∀ w',Below w.heap.size w w'→Calls Tryz.prog 256 #[.agg #[.slice b.fa1 b.fl1 b.fc1,.slice b.fa2 b.fl2 b.fc2]] w' fun e w2=>e=.returned (.int .i64 (Cd.fieldSum (lcs.map Prod.fst):Int))∧Below w'.heap.size w' w2:=by
  intro w' h;rw[hfl1]at hcs ⊢;exact Nu b.fa1 b.fa2 b.fc1 b.fl2 b.fc2 bm lcs w' hc6 hcf (hcs.kp (Kp.of_below (e:=none) h) (by decide) (by decide))
 have HOK:∀ w',Below w.heap.size w w'→b.ok w' bb:=fun w' h=>hb.below h;generalize hres:Cd.argP b.T (Cd.fieldSum (lcs.map Prod.fst):Int) (lm.map fun p=>p.1.cl) b.lo b.L op n=R;unfold Cd.argP at hres;generalize (Cd.fieldSum (lcs.map Prod.fst):Int)=nf at *;generalize Cd.hasM (lm.map fun p=>p.1.cl) n=HMf at *;generalize (Cd.findAt n b.L).isSome=B at *;generalize Tr.hasB b.T n=K at *;obtain⟨fa1,fl1,fc1,fa2,fl2,fc2,tg,tc,ya,yn,yc,cl,nm,pa,pl,pc,r1,r2,lo,st,ca,cn,cc,ha,hl',hc,ma,ml,mc,la,lc,T,L⟩:=b;simp only at hfl1 hfl2;subst hfl1 hfl2;simp only[PBd.val]at hBe hHa hHM hFC hres ⊢;have HBe:=Ac hBe;have HHa:=Ac hHa;have HHM:=Ac hHM;have HFC:=Ac hFC;have HO:=Ac HOK;clear hBe hHa hHM hFC HOK hb hcs hms hcf;by_cases hop:op=2
 ·subst hop;have HR:Hid (R=decide (n<lo)):=by unfold Hid;rw[← hres];simp
  clear hres;go_enter Tryz.func214,Tryz.ntmps214;go_wp2;go_ret;exact⟨by rw[Aa HR];rfl,Ai _ _ _⟩
 have n2:(op==2)=false:=by simp[hop]
 have i2:=hop;clear hop;by_cases hop:op=3
 ·subst hop;have HR:Hid (R=decide (n<lo)):=by unfold Hid;rw[← hres];simp
  clear hres;go_enter Tryz.func214,Tryz.ntmps214;go_wp2;go_ret;exact⟨by rw[Aa HR];rfl,Ai _ _ _⟩
 have n3:(op==3)=false:=by simp[hop]
 have i3:=hop;clear hop;by_cases hop:op=11
 ·subst hop;have HR:Hid (R=B):=by unfold Hid;rw[← hres];simp
  clear hres;go_enter Tryz.func214,Tryz.ntmps214;go_wp2_with fail
  refine(Aa HBe _ (Aa HO _ (Ai _ _ _))).mono ?_;rintro e w2 ⟨rfl,hb2⟩;go_wp2;go_ret;exact⟨by rw[Aa HR];rfl,(Ai _ _ _).trans (hb2.mono (by simp;omega))⟩
 have n11:(op==11)=false:=by simp[hop]
 have i11:=hop;clear hop;by_cases hop:op=12
 ·subst hop;have HR:Hid (R=B):=by unfold Hid;rw[← hres];simp
  clear hres;go_enter Tryz.func214,Tryz.ntmps214;go_wp2_with fail
  refine(Aa HBe _ (Aa HO _ (Ai _ _ _))).mono ?_;rintro e w2 ⟨rfl,hb2⟩;go_wp2;go_ret;exact⟨by rw[Aa HR];rfl,(Ai _ _ _).trans (hb2.mono (by simp;omega))⟩
 have n12:(op==12)=false:=by simp[hop]
 have i12:=hop;clear hop;by_cases hop:op=13
 ·subst hop;have HR:Hid (R=B):=by unfold Hid;rw[← hres];simp
  clear hres;go_enter Tryz.func214,Tryz.ntmps214;go_wp2_with fail
  refine(Aa HBe _ (Aa HO _ (Ai _ _ _))).mono ?_;rintro e w2 ⟨rfl,hb2⟩;go_wp2;go_ret;exact⟨by rw[Aa HR];rfl,(Ai _ _ _).trans (hb2.mono (by simp;omega))⟩
 have n13:(op==13)=false:=by simp[hop]
 have i13:=hop;clear hop;by_cases hop:op=14
 ·subst hop;have HR:Hid (R=B):=by unfold Hid;rw[← hres];simp
  clear hres;go_enter Tryz.func214,Tryz.ntmps214;go_wp2_with fail
  refine(Aa HBe _ (Aa HO _ (Ai _ _ _))).mono ?_;rintro e w2 ⟨rfl,hb2⟩;go_wp2;go_ret;exact⟨by rw[Aa HR];rfl,(Ai _ _ _).trans (hb2.mono (by simp;omega))⟩
 have n14:(op==14)=false:=by simp[hop]
 have i14:=hop;clear hop;by_cases hop:op=15
 ·subst hop;have HR:Hid (R=K):=by unfold Hid;rw[← hres];simp
  clear hres;go_enter Tryz.func214,Tryz.ntmps214;go_wp2_with fail
  refine(Aa HHa _).mono ?_;rintro e w2 ⟨rfl,hb2⟩;go_wp2;go_ret;exact⟨by rw[Aa HR];rfl,(Ai _ _ _).trans (hb2.mono (by simp;omega))⟩
 have n15:(op==15)=false:=by simp[hop]
 have i15:=hop;clear hop;by_cases hop:op=16
 ·subst hop;have HR:Hid (R=K):=by unfold Hid;rw[← hres];simp
  clear hres;go_enter Tryz.func214,Tryz.ntmps214;go_wp2_with fail
  refine(Aa HHa _).mono ?_;rintro e w2 ⟨rfl,hb2⟩;go_wp2;go_ret;exact⟨by rw[Aa HR];rfl,(Ai _ _ _).trans (hb2.mono (by simp;omega))⟩
 have n16:(op==16)=false:=by simp[hop]
 have i16:=hop;clear hop;by_cases hop:op=19
 ·subst hop;have HR:Hid (R=K):=by unfold Hid;rw[← hres];simp
  clear hres;go_enter Tryz.func214,Tryz.ntmps214;go_wp2_with fail
  refine(Aa HHa _).mono ?_;rintro e w2 ⟨rfl,hb2⟩;go_wp2;go_ret;exact⟨by rw[Aa HR];rfl,(Ai _ _ _).trans (hb2.mono (by simp;omega))⟩
 have n19:(op==19)=false:=by simp[hop]
 have i19:=hop;clear hop;by_cases hop:op=17
 ·subst hop;have CB:=Ak w (O10 fa1 lcs.length fc1 fa2 lm.length fc2 (some ⟨tg,0,none⟩) T.length tc ya yn yc cl nm pa pl pc r1 r2 lo st ca cn cc ha hl' hc ma ml mc la L.length lc) (O9 p 17 n);have CI:=Ah w (O10 fa1 lcs.length fc1 fa2 lm.length fc2 (some ⟨tg,0,none⟩) T.length tc ya yn yc cl nm pa pl pc r1 r2 lo st ca cn cc ha hl' hc ma ml mc la L.length lc) (O9 p 17 n);have f0:((w.alloc (O10 fa1 lcs.length fc1 fa2 lm.length fc2 (some ⟨tg,0,none⟩) T.length tc ya yn yc cl nm pa pl pc r1 r2 lo st ca cn cc ha hl' hc ma ml mc la L.length lc)).alloc (O9 p 17 n)).cell? ⟨w.heap.size,0,none⟩=some (.slice fa1 lcs.length fc1):=Ab CB 0;have f1:((w.alloc (O10 fa1 lcs.length fc1 fa2 lm.length fc2 (some ⟨tg,0,none⟩) T.length tc ya yn yc cl nm pa pl pc r1 r2 lo st ca cn cc ha hl' hc ma ml mc la L.length lc)).alloc (O9 p 17 n)).cell? ⟨w.heap.size,1,none⟩=some (.slice fa2 lm.length fc2):=Ab CB 1;have g2:((w.alloc (O10 fa1 lcs.length fc1 fa2 lm.length fc2 (some ⟨tg,0,none⟩) T.length tc ya yn yc cl nm pa pl pc r1 r2 lo st ca cn cc ha hl' hc ma ml mc la L.length lc)).alloc (O9 p 17 n)).cell? ⟨w.heap.size+1,2,none⟩=some (.int .i64 n):=Ab CI 2;have lF:=lt_of_block CB;have lI:=lt_of_block CI;have HR:Hid (R=decide (n<nf)):=by unfold Hid;rw[← hres];simp
  clear hres;go_enter Tryz.func214,Tryz.ntmps214;go_wp2
  go_region_held3 (fun w'=>w'.cell? ⟨w.heap.size,0,none⟩=some (.slice fa1 lcs.length fc1)∧w'.cell? ⟨w.heap.size,1,none⟩=some (.slice fa2 lm.length fc2)∧w'.cell? ⟨w.heap.size+1,2,none⟩=some (.int .i64 n))
   (first | exact⟨f0,f1,g2⟩ | exact⟨QC hb2 lF f0,QC hb2 lF f1,QC hb2 lI g2⟩)
   (first | (go_at_call 256;refine(Aa HFC _ (Ai _ _ _).drew).mono ?_;rintro e w2 ⟨rfl,hb2⟩))
  all_goals
   go_wp2;go_ret;exact⟨by rw[Aa HR];rfl,(Ai _ _ _).drew.trans (hb2.mono (by simp;omega))⟩
 have n17:(op==17)=false:=by simp[hop]
 have i17:=hop;clear hop;by_cases hop:op=18
 ·subst hop;have CB:=Ak w (O10 fa1 lcs.length fc1 fa2 lm.length fc2 (some ⟨tg,0,none⟩) T.length tc ya yn yc cl nm pa pl pc r1 r2 lo st ca cn cc ha hl' hc ma ml mc la L.length lc) (O9 p 18 n);have CI:=Ah w (O10 fa1 lcs.length fc1 fa2 lm.length fc2 (some ⟨tg,0,none⟩) T.length tc ya yn yc cl nm pa pl pc r1 r2 lo st ca cn cc ha hl' hc ma ml mc la L.length lc) (O9 p 18 n);have f0:((w.alloc (O10 fa1 lcs.length fc1 fa2 lm.length fc2 (some ⟨tg,0,none⟩) T.length tc ya yn yc cl nm pa pl pc r1 r2 lo st ca cn cc ha hl' hc ma ml mc la L.length lc)).alloc (O9 p 18 n)).cell? ⟨w.heap.size,0,none⟩=some (.slice fa1 lcs.length fc1):=Ab CB 0;have f1:((w.alloc (O10 fa1 lcs.length fc1 fa2 lm.length fc2 (some ⟨tg,0,none⟩) T.length tc ya yn yc cl nm pa pl pc r1 r2 lo st ca cn cc ha hl' hc ma ml mc la L.length lc)).alloc (O9 p 18 n)).cell? ⟨w.heap.size,1,none⟩=some (.slice fa2 lm.length fc2):=Ab CB 1;have g2:((w.alloc (O10 fa1 lcs.length fc1 fa2 lm.length fc2 (some ⟨tg,0,none⟩) T.length tc ya yn yc cl nm pa pl pc r1 r2 lo st ca cn cc ha hl' hc ma ml mc la L.length lc)).alloc (O9 p 18 n)).cell? ⟨w.heap.size+1,2,none⟩=some (.int .i64 n):=Ab CI 2;have lF:=lt_of_block CB;have lI:=lt_of_block CI;have HR:Hid (R=decide (n<nf)):=by unfold Hid;rw[← hres];simp
  clear hres;go_enter Tryz.func214,Tryz.ntmps214;go_wp2
  go_region_held3 (fun w'=>w'.cell? ⟨w.heap.size,0,none⟩=some (.slice fa1 lcs.length fc1)∧w'.cell? ⟨w.heap.size,1,none⟩=some (.slice fa2 lm.length fc2)∧w'.cell? ⟨w.heap.size+1,2,none⟩=some (.int .i64 n))
   (first | exact⟨f0,f1,g2⟩ | exact⟨QC hb2 lF f0,QC hb2 lF f1,QC hb2 lI g2⟩)
   (first | (go_at_call 256;refine(Aa HFC _ (Ai _ _ _).drew).mono ?_;rintro e w2 ⟨rfl,hb2⟩))
  all_goals
   go_wp2;go_ret;exact⟨by rw[Aa HR];rfl,(Ai _ _ _).drew.trans (hb2.mono (by simp;omega))⟩
 have n18:(op==18)=false:=by simp[hop]
 have i18:=hop;clear hop;by_cases hop:op=20
 ·subst hop;have HR:Hid (R=HMf false):=by unfold Hid;rw[← hres];simp
  clear hres;go_enter Tryz.func214,Tryz.ntmps214;go_wp2_with fail
  refine(Aa HHM false _ (Ai _ _ _)).mono ?_;rintro e w2 ⟨rfl,hb2⟩;go_wp2;go_ret;exact⟨by rw[Aa HR];rfl,(Ai _ _ _).trans (hb2.mono (by simp;omega))⟩
 have n20:(op==20)=false:=by simp[hop]
 have i20:=hop;clear hop;by_cases hop:op=21
 ·subst hop;have HR:Hid (R=HMf true):=by unfold Hid;rw[← hres];simp
  clear hres;go_enter Tryz.func214,Tryz.ntmps214;go_wp2_with fail
  refine(Aa HHM true _ (Ai _ _ _)).mono ?_;rintro e w2 ⟨rfl,hb2⟩;go_wp2;go_ret;exact⟨by rw[Aa HR];rfl,(Ai _ _ _).trans (hb2.mono (by simp;omega))⟩
 have n21:(op==21)=false:=by simp[hop]
 have i21:=hop;clear hop;have HR:Hid (R=true):=by
  unfold Hid;rw[← hres,if_neg (by omega),if_neg (by omega),if_neg (by omega),if_neg (by omega),if_neg (by omega),if_neg (by omega)]
 clear hres i2 i3 i11 i12 i13 i14 i15 i16 i19 i17 i18 i20 i21;go_enter Tryz.func214,Tryz.ntmps214;go_wp2;go_ret;exact⟨by rw[Aa HR];rfl,Ai _ _ _⟩
def Cd.inMaps (T:List Int) (L:List Cd.Ins):Nat→Int→List Rd.Mp→Int
 | _,_,[]=>-1
 | i,low,x::r=>if x.place<low then (i:Int) else if Cd.mapMay T L x=false then (i:Int) else Cd.inMaps T L (i+1) (x.place+1) r
def Cd.faultOf (r:Int):Int × Int:=if r<0 then (0,0) else (7,r)
theorem Wq (b:PBd) (bb b2:Nat) (lm:List (Rd.Mp × Value × Value)) (w:World) (hb:b.ok w bb) (hml:b.ml=lm.length) (hm4:lm.length≤1000) (hml2:∀ p∈lm,p.1.locals.length≤1000∧p.1.stack.length≤1000∧-1000≤p.1.place∧p.1.place≤1000) (hmp:MpsIn w b2 (.slice b.ma b.ml b.mc) lm) :
  Calls Tryz.prog 216 #[b.val] w fun e w' =>
   e=.returned (.agg #[.int .i64 (Cd.faultOf (Cd.inMaps b.T b.L 0 0 (lm.map Prod.fst))).1,.int .i64 0,.int .i64 (Cd.faultOf (Cd.inMaps b.T b.L 0 0 (lm.map Prod.fst))).2])∧Below w.heap.size w w':=by
 have hMM:=fun x v1a v2a v1c v2c w' (h:Below w.heap.size w w') h1 h2 h3 h4=>V5 b bb b2 x v1a v2a v1c v2c w' (hb.below h) h1 h2 h3 h4;have HMP:∀ w',Below w.heap.size w w'→MpsIn w' b2 (.slice b.ma b.ml b.mc) lm:=fun w' h=>hmp.kp (Kp.of_below (e:=none) h) (by decide) (by decide);generalize hr:Cd.inMaps b.T b.L 0 0 (lm.map Prod.fst)=r;have HR:Hid (Cd.inMaps b.T b.L 0 0 ((lm.map Prod.fst).drop 0)=r):=hr;generalize hF:Cd.faultOf r=Fa;have HF:=Ac hF;clear hr hF hb hmp;obtain⟨fa1,fl1,fc1,fa2,fl2,fc2,tg,tc,ya,yn,yc,cl,nm,pa,pl,pc,r1,r2,lo,st,ca,cn,cc,ha,hl',hc,ma,ml,mc,la,lc,T,L⟩:=b;simp only at hml;subst hml;simp only[PBd.val]at hMM HMP HR ⊢;have HMM:=Ac hMM;have HMP':=Ac HMP;have HL2:=Ac hml2;clear hMM HMP hml2;have hB0:=Ai w (O10 fa1 fl1 fc1 fa2 fl2 fc2 (some ⟨tg,0,none⟩) T.length tc ya yn yc cl nm pa pl pc r1 r2 lo st ca cn cc ha hl' hc ma lm.length mc la L.length lc) (O8 0 0 0);have CB0:=Ak w (O10 fa1 fl1 fc1 fa2 fl2 fc2 (some ⟨tg,0,none⟩) T.length tc ya yn yc cl nm pa pl pc r1 r2 lo st ca cn cc ha hl' hc ma lm.length mc la L.length lc) (O8 0 0 0);have CR0:=Ah w (O10 fa1 fl1 fc1 fa2 fl2 fc2 (some ⟨tg,0,none⟩) T.length tc ya yn yc cl nm pa pl pc r1 r2 lo st ca cn cc ha hl' hc ma lm.length mc la L.length lc) (O8 0 0 0);go_enter Tryz.func216,Tryz.ntmps216;go_wp2
 go_loopw [3,10] (fun u v wr=>∃ (k:Nat) (low:Int),k≤lm.length∧v=.int .i64 (k:Int)∧u=.int .i64 low∧Hid (Cd.inMaps T L k low ((lm.map Prod.fst).drop k)=r)∧Below w.heap.size w wr ∧
   wr.heap[w.heap.size]?=some (O10 fa1 fl1 fc1 fa2 fl2 fc2 (some ⟨tg,0,none⟩) T.length tc ya yn yc cl nm pa pl pc r1 r2 lo st ca cn cc ha hl' hc ma lm.length mc la L.length lc)∧wr.heap[w.heap.size+1]?=some (O8 0 0 0))
  (fun _ v _=>lm.length-(intOf v).toNat)
 case atStart=>exact⟨0,0,by omega,rfl,rfl,HR,hB0,CB0,CR0⟩
 case round =>
  clear HR hB0 CB0 CR0;obtain⟨k,low,hk,rfl,rfl,HR,hB,CB,CR⟩:=hrel;obtain⟨m0,m1,m2,m3,m4,m5,m6,m7,m8,m9,m10,m11,m12,m13,m14⟩:=Hl CB;simp at m0 m1 m2 m3 m4 m5 m6 m7 m8 m9 m10 m11 m12 m13 m14;have hBs:=hB.size;have lB:=lt_of_block CB;have lR:=lt_of_block CR;by_cases hkn:k<lm.length
  ·have hmr:=Aa HMP' _ hB;obtain⟨g,hg,hglt,_,hcell⟩:=Ao hmr.1 (by omega);have y0:=(hcell _ (Bo lm k hkn 0 (by omega)).2).trans (Bo lm k hkn 0 (by omega)).1;have y1:=(hcell _ (Bo lm k hkn 1 (by omega)).2).trans (Bo lm k hkn 1 (by omega)).1;have y2:=(hcell _ (Bo lm k hkn 2 (by omega)).2).trans (Bo lm k hkn 2 (by omega)).1;obtain⟨ht1,ht2⟩:=hmr.2 _ (List.getElem_mem hkn);obtain⟨hl1,hl2,hp1,hp2⟩:=Aa HL2 _ (List.getElem_mem hkn);have hd:(lm.map Prod.fst).drop k=lm[k].1::(lm.map Prod.fst).drop (k+1):=by
    rw[List.drop_eq_getElem_cons (by simpa using hkn)]
    simp
   have hr:=Aa HR;rw[hd,Cd.inMaps]at hr;generalize lm[k]=x at *;obtain⟨⟨plc,loc,stk⟩,v1,v2⟩:=x;simp only at y0 y1 y2 ht1 ht2 hl1 hl2 hr hp1 hp2;obtain⟨v1a,v1c,rfl⟩:=Ae ht1;obtain⟨v2a,v2c,rfl⟩:=Ae ht2;simp at y0 y1 y2;have hB1:=hB.alloc hBs (O11 plc v1a loc.length v1c v2a stk.length v2c);have hBx:Below wr.heap.size wr (wr.alloc (O11 plc v1a loc.length v1c v2a stk.length v2c)):=QN _;have hmm:=Aa HMM ⟨plc,loc,stk⟩ v1a v2a v1c v2c _ hB1 hl1 hl2 (ht1.kp (Kp.of_below (e:=none) hBx) (by decide)) (ht2.kp (Kp.of_below (e:=none) hBx) (by decide));simp only at hmm;generalize Cd.mapMay T L ⟨plc,loc,stk⟩=M at *;have CX1:=Ad wr (O11 plc v1a loc.length v1c v2a stk.length v2c);have CB1:=Af CB (O11 plc v1a loc.length v1c v2a stk.length v2c);have CR1:=Af CR (O11 plc v1a loc.length v1c v2a stk.length v2c);have HM:=Ac hmm;have HRR:=Ac hr;have kb:(k:Int)<(lm.length:Int):=by omega
   clear hmm hr hd hcell HR ht1 ht2 hmr hBx;subst hg;by_cases hlw:plc<low
   ·have HE:Hid (Fa=(7,(k:Int))):=by
     unfold Hid;rw[← Aa HF,← Aa HRR,if_pos hlw,Cd.faultOf,if_neg (by omega)]
    obtain⟨q0,q1,q2⟩:=fr3 CR;obtain⟨z0,z1,z2⟩:=cl3 CR;simp at z0 z1 z2;clear HRR HM;go_wp2_with fail
    refine bodyPost_ret (v:=.agg #[.int .i64 7,.int .i64 0,.int .i64 (k:Int)]) (by simp[results,Tryz.results216,go_sem,z0,z1,z2,lR]) rfl ?_;rw[Aa HE];exact⟨rfl,by repeat (first | refine Below.setCell ?_ (by simp) _ | refine Below.alloc ?_ (by first | omega | (simp;omega)) _ | exact hB)⟩
   ·cases M with
    | false =>
     have HE:Hid (Fa=(7,(k:Int))):=by
      unfold Hid;rw[← Aa HF,← Aa HRR,if_neg hlw,if_pos rfl,Cd.faultOf,if_neg (by omega)]
     clear HRR;go_wp2_with fail
     refine(Aa HM).mono ?_;rintro e w2 ⟨rfl,hb2⟩;have hB2:=QB hB1 hb2;have CR2:=stay hb2 CR1;obtain⟨q0,q1,q2⟩:=fr3 CR2;obtain⟨z0,z1,z2⟩:=cl3 CR2;simp at z0 z1 z2;go_wp2_with fail
     refine bodyPost_ret (v:=.agg #[.int .i64 7,.int .i64 0,.int .i64 (k:Int)]) (by simp[results,Tryz.results216,go_sem,z0,z1,z2]) rfl ?_;rw[Aa HE];exact⟨rfl,((hB2.setCell (by simp) _).setCell (by simp) _).setCell (by simp) _⟩
    | true =>
     have HG:Hid (Cd.inMaps T L (k+1) (plc+1) ((lm.map Prod.fst).drop (k+1))=r):=by unfold Hid;rw[← Aa HRR,if_neg hlw];simp
     clear HRR;go_wp2_with fail
     refine(Aa HM).mono ?_;rintro e w2 ⟨rfl,hb2⟩;have hB2:=QB hB1 hb2;have CB2:=stay hb2 CB1;have CR2:=stay hb2 CR1;have CX2:=stay hb2 CX1;have z0:=Ab CX2 0;simp at z0;clear hb2 hB1 CB1 CR1 CX1 hB CB CR m0 m1 m2 m3 m4 m5 m6 m7 m8 m9 m10 m11 m12 m13 m14 y0 y1 y2;go_wp2
     go_roundw
     case rel=>exact⟨k+1,plc+1,by omega,by go_num,by go_num,HG,hB2,CB2,CR2⟩
     case measure=>simp[intOf];omega
  ·have HE:Hid (Fa=(0,0)):=by
    unfold Hid;rw[← Aa HF,← Aa HR,List.drop_eq_nil_of_le (by simp;omega)];rfl
   have kb:¬ (k:Int)<(lm.length:Int):=by omega
   obtain⟨q0,q1,q2⟩:=fr3 CR;obtain⟨z0,z1,z2⟩:=cl3 CR;simp at z0 z1 z2;clear HR;go_wp2_with fail
   refine bodyPost_ret (v:=.agg #[.int .i64 0,.int .i64 0,.int .i64 0]) (by simp[results,Tryz.results216,go_sem,z0,z1,z2]) rfl ?_;rw[Aa HE];exact⟨rfl,((hB.setCell (by simp) _).setCell (by simp) _).setCell (by simp) _⟩
end Go.Proofs.YtpcgnjolfahacaaGreat
namespace Go.Proofs.YtpcgnjolfahacaaGreat.Cd
theorem Us (ow:List Int) (n:Int) (h:0≤n):hasM ow n false=(decide (n<(ow.length:Int))&&(ow.getD n.toNat 0==255))∧hasM ow n true=(decide (n<(ow.length:Int))&&(ow.getD n.toNat 0 != 255)):=by
 unfold hasM;have hn:¬ n<0:=by omega
 simp only[if_neg hn];by_cases h2:(ow.length:Int)≤n
 ·have:decide (n<(ow.length:Int))=false:=by simp;omega
  simp only[if_pos h2,this]
  simp
 ·have:decide (n<(ow.length:Int))=true:=by simp;omega
  simp only[if_neg h2,this];cases h3:(ow.getD n.toNat 0 != 255)<;>simp_all
theorem argP_eq (T:List Int) (nf:Int) (ow:List Int) (lo:Int) (c:List Int) (op n:Int) (h:op=20∨op=21→0≤n):argP T nf ow lo (insts c) op n=argB T nf ow lo c op n:=by
 unfold argP argB;rw[find_beg];by_cases h1:op=2∨op=3
 ·rw[if_pos h1,if_pos h1]
 ·rw[if_neg h1,if_neg h1];by_cases h2:11≤op∧op≤14
  ·rw[if_pos h2,if_pos h2]
  ·rw[if_neg h2,if_neg h2];by_cases h3:op=15∨op=16∨op=19
   ·rw[if_pos h3,if_pos h3]
   ·rw[if_neg h3,if_neg h3];by_cases h4:op=17∨op=18
    ·rw[if_pos h4,if_pos h4]
    ·rw[if_neg h4,if_neg h4];by_cases h5:op=20
     ·rw[if_pos h5,if_pos h5];exact(Us ow n (h (.inl h5))).1
     ·rw[if_neg h5,if_neg h5];by_cases h6:op=21
      ·rw[if_pos h6,if_pos h6];exact(Us ow n (h (.inr h6))).2
      ·rw[if_neg h6,if_neg h6]
theorem Aao (T c:List Int) (k n:Int):mapTy T (insts c) k n=framed T c k n:=by
 unfold mapTy framed Tr.settledB Tr.plainB;by_cases h4:k=4
 ·rw[if_pos h4,Aac,if_neg (by omega),if_neg (by omega),if_pos h4]
 ·rw[if_neg h4];by_cases h02:k=0∨k=2
  ·rw[if_pos h02,if_pos (by omega)]
  ·rw[if_neg h02];by_cases h1:k=1
   ·rw[if_pos h1,if_pos (by omega)]
   ·have q:¬ (k=0∨k=1∨k=2):=by omega
    rw[if_neg h1,if_neg q];by_cases h3:k=3
    ·rw[if_pos h3,if_pos h3]
    ·rw[if_neg h3,if_neg h3,if_neg h4]
theorem Pt (T c:List Int) (l:List (Int × Int)):mapTys T (insts c) l=frAll T c l:=by
 unfold mapTys frAll
 congr 1
 funext t
 exact Aao T c t.1 t.2
theorem inMaps_eq (T c:List Int) (l:List Rd.Mp):∀ (i:Nat) (low:Int),inMaps T (insts c) i low l=mapsBad T c i (low-1) l:=by
 induction l with
 | nil=>intro i low;rfl
 | cons x r ih =>
  intro i low;rw[inMaps,mapsBad,ih];unfold mapMay;rw[find_beg,Pt,Pt];by_cases h1:x.place<low
  ·rw[if_pos h1,if_pos (show x.place≤low-1 by omega)]
   simp
  ·rw[if_neg h1,if_neg (show ¬ x.place≤low-1 by omega)];cases begB c x.place<;>cases frAll T c x.locals<;>cases frAll T c x.stack<;>simp
theorem hndMay_eq {T:List Int} (hT:Tr.Ok T) (_h1:1<T.length) (c:List Int) (x:Rd.Hnd):hndMay T (insts c) (c.length:Int) x = !hndBad T c x:=by
 have kw:Tr.within T x.cl 1=(if x.cl=1 then true else Tr.below T x.cl 1):=by
  unfold Tr.within;by_cases h:x.cl=1<;>simp[h]
 unfold hndMay hndBad;rw[find_beg,find_beg,find_beg,kw];by_cases a1:x.til≤x.frm
 ·rw[if_pos a1];simp[a1]
 ·rw[if_neg a1];have a1':decide (x.til≤x.frm)=false:=by simpa using a1
  rw[a1'];cases begB c x.frm
  ·simp
  ·cases begB c x.target
   ·simp
   ·have key:(if x.cl=1 then true else Tr.below T x.cl 1)=(Tr.hasB T x.cl&&Tr.rbel T x.cl 1):=by
     by_cases hh:Tr.hasB T x.cl=true
     ·rw[hh,Bool.true_and];have hb:0≤x.cl∧x.cl<(T.length:Int):=by simpa[Tr.hasB] using hh
      have e:=Tr.rbel_iff hT (a:=x.cl) (b:=1) hb.1 hb.2 (by omega);by_cases h:x.cl=1
      ·rw[if_pos h];exact(e.2 (.inl h.symm)).symm
      ·rw[if_neg h];refine Bool.eq_iff_iff.2 ⟨fun g=>e.2 (.inr g),fun g=>?_⟩;rcases e.1 g with g | g
       ·exact absurd g.symm h
       ·exact g
     ·have hh':Tr.hasB T x.cl=false:=by simpa using hh
      rw[hh',Bool.false_and];have hn:¬ (0≤x.cl∧x.cl<(T.length:Int)):=by simpa[Tr.hasB] using hh
      rw[if_neg (by omega)];have hov:Tr.ov T x.cl = -1:=by
       unfold Tr.ov;by_cases g:x.cl<0
       ·rw[if_pos g]
       ·rw[if_neg g,if_pos (by omega)]
      unfold Tr.below;rw[hov];cases T.length<;>simp[Tr.upTo]
    rw[key];by_cases h2:x.til=(c.length:Int)
    ·cases begB c x.til<;>cases Tr.hasB T x.cl<;>cases Tr.rbel T x.cl 1<;>simp[h2]
    ·cases begB c x.til<;>cases Tr.hasB T x.cl<;>cases Tr.rbel T x.cl 1<;>simp[h2]
theorem Rt (a b:List Rd.Cls):fieldSum (a++b)=fieldSum a+fieldSum b:=by
 induction a with
 | nil=>simp[fieldSum]
 | cons x r ih=>rw[List.cons_append,fieldSum,fieldSum,ih];omega
theorem fields_eq (T:List Int) (cs:List Rd.Cls) (j:Nat) (hj:j≤cs.length):(Rf.fieldsTo T (Rf.given++cs) j).length=fieldSum (cs.take j):=by
 induction j with
 | zero=>simp[Rf.fieldsTo,fieldSum]
 | succ k ih =>
  have hk:k<cs.length:=by omega
  have e:(Rf.given++cs).getD (7+k) ⟨0,[]⟩=cs[k]:=by
   rw[List.getD_eq_getElem?_getD,List.getElem?_append_right (by simp[Rf.given])];simp[Rf.given,hk]
  rw[Rf.fieldsTo,List.length_append,Rf.ownOf,Gc,e,ih (by omega),List.take_succ_eq_append_getElem hk,Rt];simp[fieldSum]
end Go.Proofs.YtpcgnjolfahacaaGreat.Cd
