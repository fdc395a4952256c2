/- the proof's parts -/
import Derived.Test.YtpcgnjolfahacaaGreatPk02
set_option maxRecDepth 100000
set_option maxHeartbeats 40000000
set_option linter.unusedVariables false
set_option linter.unusedSimpArgs false
set_option linter.defProp false
namespace Go.Proofs.YtpcgnjolfahacaaGreat
open Go.RowKit Go.Proofs.Tryz
def Cd.insts(c:TI):List Cd.Ins:=(Cd.places c).map (Cd.insAt c)
def Cd.readL(c:TI):List Cd.Ins:=if 0<=Cd.unread c then [] else Cd.insts c
def Cd.readP(c:TI):Int:=if 0<=Cd.unread c then Cd.unread c else 0
def Cd.readB(c:TI):Bool:=decide (Cd.unread c<0)
def Cd.one(c:TI)(p:Nat):Option Cd.Ins:=if p<c.length/\c.getD p 0<=25/\p+Cd.wd (c.getD p 0)<=c.length then some (Cd.insAt c p) else none
def Be0:Cd.orZero none=⟨0,0,0⟩:=rfl
theorem Bef(c:List Int)(a:Option Addr)(C F p:Nat)(w:World)(N:c.length<=1000)(O:p<=100000)(j:∀x∈c,0<=x)(l:De w F (.slice a c.length C) c):Calls prog 163 #[.slice a c.length C,.int .i64 (p:Int)] w fun e G => e=.returned (.tuple #[.agg #[.int .i64 (Cd.orZero (Cd.one c p)).place,.int .i64 (Cd.orZero (Cd.one c p)).op,.int .i64 (Cd.orZero (Cd.one c p)).n],.bool (Cd.one c p).isSome])/\Below w.heap.size w G:=by
 generalize b:Cd.one c p=r;unfold Cd.one at b;have Q:¬(p:Int)<0:=Ck;by_cases v:p<c.length
 ·obtain⟨g,z,V,_,m⟩:=Cf l Ck;have Y:w.cell? ⟨g,p,none⟩=some (.int .i64 (c.getD p 0)):=by
   rw[m p (by simpa using v),Bsf,Vm,Brl v];rfl
  have A:0<=c.getD p 0:=by
   rw[Vm,Brl v];exact j _ (Brn v)
  have s:p+1<c.length->w.cell? ⟨g,p+1,none⟩=some (.int .i64 (c.getD (p+1) 0)):=by
   intro h;rw[m (p+1) (by simpa using h),Bsf,Vm,Brl h];rfl
  have q:Cd.insAt c p=⟨(p:Int),c.getD p 0,if Cd.wd (c.getD p 0)=2 then c.getD (p+1) 0 else 0⟩:=rfl
  have B:=Cd.wd_bd (c.getD p 0);have I:(p:Int)<(c.length:Int):=Ck;have Z:¬c.getD p 0<0:=Ck;by_cases a0:25<c.getD p 0
  ·have f:Hid (r=none):=by unfold Hid;rw[<- b,Pk Ck]
   generalize c.getD p 0=op at *;clear b q m s A j l;subst z;go_in;go_wp2;refine tb (.tuple #[.agg #[.int .i64 0,.int .i64 0,.int .i64 0],.bool false]) (by simp[results,Bu1,go_sem]) ?_;rw[Ba f];exact⟨rfl,by first|exact Bu _ _ _|exact QN _⟩
  have i:=fun w=>Bdz (c.getD p 0) w;rcases(show Cd.wd (c.getD p 0)=1\/Cd.wd (c.getD p 0)=2 by omega) with hw|hw
  ·have f:Hid (r=some ⟨(p:Int),c.getD p 0,0⟩):=by
    unfold Hid;rw[<- b,Th Ck,q,hw];rfl
   rw[hw]at i;generalize c.getD p 0=op at *;have t:=Bc i;clear b q m s A j l i hw B;subst z;go_in;go_wp2_with fail;refine(Ba t _).mono ?_;rintro e D ⟨rfl,rfl⟩;go_wp2;refine tb (.tuple #[.agg #[.int .i64 (p:Int),.int .i64 op,.int .i64 0],.bool true]) (by simp[results,Bu1,go_sem]) ?_;rw[Ba f];exact⟨rfl,by first|exact Bu _ _ _|exact QN _⟩
  by_cases J:p+1<c.length
  ·have f:Hid (r=some ⟨(p:Int),c.getD p 0,c.getD (p+1) 0⟩):=by
    unfold Hid;rw[<- b,Th Ck,q,hw];rfl
   have y2:=s J;have K:(p:Int)+1<(c.length:Int):=Ck;rw[hw]at i;generalize c.getD (p+1) 0=L at *;generalize c.getD p 0=op at *;have t:=Bc i;clear b q m s A j l i hw B;subst z;go_in;go_wp2_with fail;refine(Ba t _).mono ?_;rintro e D ⟨rfl,rfl⟩;go_wp2;refine tb (.tuple #[.agg #[.int .i64 (p:Int),.int .i64 op,.int .i64 L],.bool true]) (by simp[results,Bu1,go_sem]) ?_;rw[Ba f];exact⟨rfl,by first|exact Bu _ _ _|exact QN _⟩
  have f:Hid (r=none):=by unfold Hid;rw[<- b,Pk Ck]
  have K:¬(p:Int)+1<(c.length:Int):=Ck;rw[hw]at i;generalize c.getD p 0=op at *;have t:=Bc i;clear b q m s A j l i hw B;subst z;go_in;go_wp2_with fail;refine(Ba t _).mono ?_;rintro e D ⟨rfl,rfl⟩;go_wp2;refine tb (.tuple #[.agg #[.int .i64 0,.int .i64 0,.int .i64 0],.bool false]) (by simp[results,Bu1,go_sem]) ?_;rw[Ba f];exact⟨rfl,by first|exact Bu _ _ _|exact QN _⟩
 have f:Hid (r=none):=by unfold Hid;rw[<- b,Pk Ck]
 have I:¬(p:Int)<(c.length:Int):=Ck;clear b j l;go_in;go_wp2;refine tb (.tuple #[.agg #[.int .i64 0,.int .i64 0,.int .i64 0],.bool false]) (by simp[results,Bu1,go_sem]) ?_;rw[Ba f];exact⟨rfl,by first|exact Bu _ _ _|exact QN _⟩
def Bbr(c:TI)(a:TA)(N bb:Nat)(w:TW)(hl:c.length<=1000)(h0:∀x∈c,0<=x)(hi:De w bb (.s a c.length N) c):Calls prog 108 #[.s a c.length N] w fun e C => ∃va vc,e=.r (.tuple #[.s va (Cd.readL c).length vc,.i (Cd.readP c),.bool (Cd.readB c)])/\Jz C w.heap.size (.s va (Cd.readL c).length vc) (Cd.readL c)/\Bl w C:=by
 obtain⟨i0,b6,b7,b8,b9⟩:=Bsa Tryz.infoIns;have O:Cd.unread c=Cd.first (Cd.noRead c) (Cd.starts c c.length 0):=rfl
 generalize G:Cd.unread c=U at O;have hL:Cd.readL c=if 0<=U then [] else Cd.insts c:=by unfold Cd.readL;rw[G]
 have hP:Cd.readP c=if 0<=U then U else 0:=by unfold Cd.readP;rw[G]
 have a2:Cd.readB c=decide (U<0):=by unfold Cd.readB;rw[G]
 generalize Cd.readL c=L at *;generalize Cd.readP c=P at *;generalize Cd.readB c=B at *;have HL:=Bc hL;have HP:=Bc hP;have a3:=Bc a2;have l:Hid (Cd.first (Cd.noRead c) (Cd.starts c c.length 0)=U):=O.symm
 have m:Hid (([]:List Nat)++Cd.starts c c.length 0=Cd.places c):=rfl;have H0:=Bc h0;clear hL hP a2 G O h0;go_in;go_wp2
 go_loopw [5,6] (fun u v wr=>∃(p k:Nat) (done:List Nat),v=.i (p:Int)/\c.length<=p+k/\p<=2000/\done.length<=p/\wr.ownsRow w.heap.size 219 3 u done.length (Kj (done.map (Cd.insAt c))) /\
   Hid (done++Cd.starts c k p=Cd.places c)/\Hid (Cd.first (Cd.noRead c) (Cd.starts c k p)=U)/\Bl w wr)
  (fun _ v _=>c.length-(intOf v).toNat)
 case atStart=>exact⟨0,c.length,[],rfl,Ck,Ck,Hd,Brw _ _ _ _,m,l,Brm _ _⟩
 case round=>
  clear l m;obtain⟨p,k,done,rfl,hk,d4,d5,I,m,l,q⟩:=hrel;obtain⟨ua,uc,rfl⟩:=Bh I;have a4:=q.size;by_cases a5:p<c.length
  ·obtain⟨j,rfl,hj,Q⟩:=Cd.starts_go (c:=c) (k:=k) (p:=p) a5 hk;have b:=Ba l;have f:=Ba m;rw[Q]at b f;rw[Cd.first]at b
   have d6:=Cd.wd_bd (c.getD p 0);have g:=fun C (hb:Bl w C)=>Bef c a N bb p C hl Ck (Ba H0) (hi.kp (Kp.of_below (e:=none) hb) Fm);have J:Cd.noRead c p=(decide (25<c.getD p 0)||decide (c.length<p+Cd.wd (c.getD p 0))):=rfl;have kb:(p:Int)<(c.length:Int):=Ck;by_cases a6:c.getD p 0<=25/\p+Cd.wd (c.getD p 0)<=c.length
   ·have D:Cd.one c p=some (Cd.insAt c p):=by unfold Cd.one;rw[Th ⟨a5,a6⟩]
    have a7:=fun n w=>W1 p (c.getD p 0) n w Ck;have c0:Hid (Cd.first (Cd.noRead c) (Cd.starts c j (p+Cd.wd (c.getD p 0)))=U):=by
     unfold Hid;rw[<- b,J,Buk (show ¬25<c.getD p 0 by omega),Buk (show ¬c.length<p+Cd.wd (c.getD p 0) by omega)];rw[Pk Fm]
    have c6:Hid ((done++[p])++Cd.starts c j (p+Cd.wd (c.getD p 0))=Cd.places c):=by unfold Hid;rw[<- f];simp
    have t:Hid (Kj ((done++[p]).map (Cd.insAt c))=Kj (done.map (Cd.insAt c))++[.i (Cd.insAt c p).place,.i (Cd.insAt c p).op,.i (Cd.insAt c p).n]):=by
     unfold Hid;rw[Bse,List.map_singleton,Bfc]
    have V:(Cd.insAt c p).place=(p:Int):=rfl;have Y:(Cd.insAt c p).op=c.getD p 0:=rfl;rw[D]at g;simp only[Cd.orZero,Option.isSome_some]at g;rw[V,Y]at g;unfold Hid at t;rw[V,Y]at t;have t:=Bc t;generalize (Cd.insAt c p).n=Z at *;generalize Cd.wd (c.getD p 0)=c7 at *;generalize c.getD p 0=op at *;have a0:=Bc g;have c8:=Bc a7;clear g a7 b f J Q l m V Y D;go_wp2_with fail;refine Qm (Ba a0 _ q) ?_;intro F z;have A:=q.trans (z.mono a4);have K:=Dc I (Kp.of_below (e:=none) z) Fm;have a8:=A.size;clear z I;go_wp2_with (at_builtin;refine Br3 _ rfl _ _ 179 rfl w.heap.size 219 i0 _ 3 24 underlying179 b6 b7 b8 b9 rfl Fm _ _ _ rfl ((K.alloc _).alloc _) ⟨F.heap.size+1,0,none⟩ 1 1 [.i (p:Int),.i op,.i Z] rfl rfl ?c1 ?c2 ?c3 ?c4 ?c5 ?_)
    case c1=>exact Dh _ _ _ _ Hd
    case c2=>intro u b;simp at b;rcases b with rfl|rfl|rfl<;>rfl
    case c3=>unfold maxLen;omega
    case c4=>omega
    case c5=>simp;omega
    intro v' w2 a9 a1 _;have hX:w2.heap[F.heap.size]?=some (O15 (p:Int) op Z):=by
     rw[a1.block F.heap.size Fr (fun h=>by have:=(K.lt _ h.symm).2;omega),Br2 _ _ _ Hd];exact Be F _
    have b0:w2.ownsRow w.heap.size 219 3 v' (done++[p]).length (Kj ((done++[p]).map (Cd.insAt c))):=by
     rw[Ba t,Ws];exact a9
    have b1:=((A.alloc a8 _).alloc Fr _).grown a1 Fr (fun j hj=>(K.lt j hj).1);obtain⟨x0,x1,x2⟩:=cl3 hX;simp at x0 x1 x2;clear a1 K a9 A q hX t;go_wp2_with fail;refine Qb (Ba c8 Z _) b1 ?_;intro w3 b2 c9;have d0:=Dc b0 (Kp.of_below (e:=none) b2) Fm;clear b2 b1 b0 x0 x1 x2;go_wp2;go_roundw
    case rel=>exact⟨p+c7,j,done++[p],rfl,Ck,Ck,Fr,d0,c6,c0,c9⟩
    case measure=>simp[intOf];omega
   have D:Cd.one c p=none:=by unfold Cd.one;rw[Pk (fun h=>a6 h.2)]
   have HF:Hid (U=(p:Int)):=by
    unfold Hid;rw[<- b,J];by_cases d1:25<c.getD p 0;·rw[Bt5 d1,Bool.true_or,Th rfl]
    rw[Bt5 (show c.length<p+Cd.wd (c.getD p 0) by omega),Bool.or_true,Th rfl]
   rw[D]at g;simp only[Be0,Bvr]at g;have a0:=Bc g;clear g b f J Q l m D;go_wp2_with fail;refine Qm (Ba a0 _ q) ?_;intro F z;have A:=q.trans (z.mono a4);have a8:=A.size;clear z;go_wp2;refine tb (.tuple #[.s none 0 0,.i (p:Int),.bool false]) (by simp[results,results108,go_sem]) ?_;have b3:(0:Int)<=(p:Int):=Ck;rw[Ba HL,Ba HP,Ba a3,Ba HF,Th b3,Th b3];exact⟨none,0,Hd,Brw _ _ _ _,by repeat (first|refine Bud ?_|refine Bs4 ?_ (by first|omega|(simp;omega)) _|exact A)⟩
  have b:=Ba l;have f:=Ba m;rw[Cd.starts_end Ck]at b f;have b4:U = -1:=by rw[<- b];rfl
  rw[Btg]at f;have d2:=Bc b4;have d3:=Bc f;have kb:¬(p:Int)<(c.length:Int):=Ck;clear b f b4 l m;go_wp2;refine tb (.tuple #[.s ua done.length uc,.i 0,.bool true]) (by simp[results,results108,go_sem]) ?_;have b5:¬(0:Int)<=-1:=Ck;rw[Ba HL,Ba HP,Ba a3,Ba d2,Pk b5,Pk b5];unfold Cd.insts;rw[<- Ba d3];exact⟨ua,uc,Hd,by unfold Jz;simpa using I,q⟩
namespace Cd
def Bbl(c:TI)(b:Int)(e:List Nat):(findAt b (e.map (insAt c))).isSome=e.any fun p=>(p:Int)==b:=by
 induction e with
 | nil=>rfl
 | cons p r ih =>
  rw[Bsw,findAt,Buj];by_cases h:(insAt c p).place=b
  ·rw[Th h];have:((p:Int)==b)=true:=by simpa[insAt] using h
   rw[this];rfl
  rw[Pk h,ih];have:((p:Int)==b)=false:=by simpa[insAt] using h
  rw[this];rfl
def find_beg(c:TI)(b:Int):(findAt b (insts c)).isSome=begB c b:=Bbl c b (places c)
def find_at(c:TI)(b:Int)(e:List Nat)(h:(findAt b (e.map (insAt c))).isSome=true):(orZero (findAt b (e.map (insAt c))))=insAt c b.toNat/\0<=b:=by
 induction e with
 | nil=>simp[findAt]at h
 | cons p r ih =>
  rw[Bsw,findAt]at h ⊢;by_cases f:(insAt c p).place=b;·rw[Th f];have:(p:Int)=b:=f;subst this;exact⟨by simp[orZero],Ck⟩
  rw[Pk f]at h ⊢;exact ih h
def Bnd(c:TI)(b:Int):((findAt b (insts c)).isSome&&((orZero (findAt b (insts c))).op==15))=(begB c b&&(c.getD b.toNat 0==15)):=by
 rw[find_beg];cases h:begB c b with
 | false=>rfl
 | true =>
  have:=(find_at c b (places c) (by rw[Bbl];exact h)).1;unfold insts;rw[this];rfl
end Cd
structure PBd where
 fa1:Option Addr
 fl1:Nat
 fc1:Nat
 fa2:Option Addr
 fl2:Nat
 fc2:Nat
 tg:Nat
 tc:Nat
 ya:Option Addr
 yn:Nat
 yc:Nat
 cl:Int
 nm:Int
 pa:Option Addr
 pl:Nat
 pc:Nat
 r1:Int
 r2:Int
 lo:Int
 st:Int
 ca:Option Addr
 cn:Nat
 cc:Nat
 ha:Option Addr
 hl:Nat
 hc:Nat
 ma:Option Addr
 ml:Nat
 mc:Nat
 la:Option Addr
 lc:Nat
 T:List Int
 L:List Cd.Ins
def PBd.val(b:PBd):Value:=.agg #[.slice b.fa1 b.fl1 b.fc1,.slice b.fa2 b.fl2 b.fc2,.slice (some ⟨b.tg,0,none⟩) b.T.length b.tc,.slice b.ya b.yn b.yc,.int .i64 b.cl,.int .i64 b.nm,.slice b.pa b.pl b.pc,.int .i64 b.r1,.int .i64 b.r2,.int .i64 b.lo,.int .i64 b.st,.slice b.ca b.cn b.cc,.slice b.ha b.hl b.hc,.slice b.ma b.ml b.mc,.slice b.la b.L.length b.lc]
def PBd.ok(b:PBd)(w:TW)(bb:Nat):Prop:=b.T.length<=1000/\b.L.length<=100000/\Dy w b.tg b.T/\Jz w bb (.slice b.la b.L.length b.lc) b.L
def PBd.ok.below{b:PBd}{w s:TW}{u:Nat}(h:b.ok w u)(c:Bl w s):b.ok s u :=
 ⟨h.1,h.2.1,h.2.2.1.below c,h.2.2.2.kp (Kp.of_below (e:=none) c) Fm⟩
def Cd.mapTy(T:TI)(L:List Cd.Ins)(k n:Int):Bool:=if k=4 then (Cd.findAt n L).isSome&&((Cd.orZero (Cd.findAt n L)).op==15) else Tr.settledB T k n
def Bj6(b:PBd)(g:Nat)(k n:Int)(w:TW)(t:b.ok w g):Calls prog 303 #[b.val,.agg #[.i k,.i n]] w fun e f=>e=.r (.bool (Cd.mapTy b.T b.L k n))/\Bl w f:=by
 have q:=fun w (h:b.ok w g)=>Bh5 b.L b.la b.lc g n w h.2.1 h.2.2.2;have s:=fun w=>Bcc (ya:=b.ya) (yn:=b.yn) (yc:=b.yc) b.T (.p b.tg) b.tc k n w;have v:∀f,Bl w f->b.ok f g:=fun f h=>t.below h;generalize c:Cd.mapTy b.T b.L k n=R;unfold Cd.mapTy at c;obtain⟨D,F,G,I,J,K,N,O,ya,yn,yc,Q,V,Y,Z,pc,r1,r2,lo,st,ca,cn,cc,ha,hl,hc,ma,ml,mc,la,lc,T,L⟩:=b;simp only[PBd.val]at q s c ⊢;have z:=Bc q;have A:=Bc s;have B:=Bc v;by_cases j:k=4;·rw[Th j]at c;subst j;have l:=Bc c;go_in;go_wp2_with fail;refine Qm (Ba z _ (Ba B _ (Bu _ _ _))) ?_;intro C m;go_wp2;go_ret;exact⟨by rw[<- Ba l];rfl,(Bu _ _ _).trans (m.mono Fr)⟩
 rw[Pk j]at c;have a0:(k==4)=false:=by simp[j]
 have l:=Bc c;go_in;go_wp2_with fail;refine Qm (Ba A _) ?_;intro C m;go_wp2;go_ret;exact⟨by rw[<- Ba l];rfl,(Bu _ _ _).trans (m.mono Fr)⟩
def Cd.mapTys(T:TI)(L:List Cd.Ins)(l:TP):Bool:=l.all fun t=>Cd.mapTy T L t.1 t.2
def Zw(b:PBd)(z b2:Nat)(l:TP)(F:TA)(vc:Nat)(w:TW)(hb:b.ok w z)(hl:l.length<=1000)(ht:Cq w b2 (.s F l.length vc) l):Calls prog 288 #[b.val,.s F l.length vc] w fun e c=>e=.r (.bool (Cd.mapTys b.T b.L l))/\Bl w c:=by
 have G:=fun k n w (h:b.ok w z)=>Bj6 b z k n w h;have a3:∀c,Bl w c->b.ok c z:=fun c h=>hb.below h;have a4:∀c,Bl w c->Cq c b2 (.s F l.length vc) l:=fun c h=>ht.kp (Kp.of_below (e:=none) h) Fm;generalize hR:Cd.mapTys b.T b.L l=R;have f:Hid (Cd.mapTys b.T b.L (l.drop 0)=R):=hR;clear hR;obtain⟨I,J,K,N,O,Q,V,Y,ya,yn,yc,cl,nm,pa,pl,pc,r1,r2,lo,st,ca,cn,cc,ha,a0,hc,ma,ml,mc,la,lc,T,L⟩:=b;simp only[PBd.val]at G f ⊢;have HM:=Bc G;have HO:=Bc a3;have HT:=Bc a4;clear G a3 a4 hb ht;have a5:Bl w (w.alloc (O16 I J K N O Q (.p V) T.length Y ya yn yc cl nm pa pl pc r1 r2 lo st ca cn cc ha a0 hc ma ml mc la L.length lc)):=QN _;have C0:=Be w (O16 I J K N O Q (.p V) T.length Y ya yn yc cl nm pa pl pc r1 r2 lo st ca cn cc ha a0 hc ma ml mc la L.length lc);go_in;go_wp2
 go_loopw [9] (fun v wr=>∃k:Nat,k<=l.length/\v=.i (k:Int)/\Hid (Cd.mapTys T L (l.drop k)=R)/\Bl w wr /\
   wr.heap[w.heap.size]?=some (O16 I J K N O Q (.p V) T.length Y ya yn yc cl nm pa pl pc r1 r2 lo st ca cn cc ha a0 hc ma ml mc la L.length lc))
  (fun v _=>l.length-(intOf v).toNat)
 case atStart=>exact⟨0,Ck,rfl,f,a5,C0⟩
 case round=>
  clear a5 C0 f;obtain⟨k,hk,rfl,f,j,A⟩:=hrel;obtain⟨m0,m1,m2,m3,m4,m5,m6,m7,m8,m9,a6,a7,a8,a9,b0⟩:=Tk A;simp at m0 m1 m2 m3 m4 m5 m6 m7 m8 m9 a6 a7 a8 a9 b0;have b6:=j.size;have lB:=Sp A;by_cases b1:k<l.length
  ·obtain⟨g,hg,b8,_,a1⟩:=Cf (Ba HT _ j) Ck;obtain⟨e1,e2,e3⟩:=Fu l k b1;have u0:=(a1 (k*2) Ck).trans e1;have u1:=(a1 (k*2+1) Ck).trans e2;have hd:l.drop k=l[k]::l.drop (k+1):=Brj b1;have m:=Ba f;unfold Cd.mapTys at m;rw[hd,Bw3]at m;generalize l[k]=t at *;obtain⟨B,C⟩:=t;simp only at u0 u1 m;have hm:=fun w h=>Ba HM B C w h;generalize Cd.mapTy T L B C=Z at *;have HZ:=Bc hm;have D:=Bc m;have kb:(k:Int)<(l.length:Int):=Ck;have b3:=Bg A (O7 B C);have a2:=j.alloc b6 (O7 B C);clear hm m hd a1 e1 e2 e3 f;subst hg;go_wp2_with fail;refine Qb (Ba HZ _ (Ba HO _ a2)) a2 ?_;intro w2 b4 b5;have b7:=stay b4 b3;clear b4 a2 b3 A j u0 u1 m0 m1 m2 m3 m4 m5 m6 m7 m8 m9 a6 a7 a8 a9 b0;cases Z with
   | false =>
    have q:Hid (R=false):=by unfold Hid;rw[<- Ba D];simp
    clear D;go_wp2;go_ret;exact⟨by rw[Ba q];rfl,b5⟩
   | true =>
    have q:Hid (Cd.mapTys T L (l.drop (k+1))=R):=by unfold Hid Cd.mapTys;rw[<- Ba D];simp
    clear D;go_wp2;go_roundw
    case rel=>exact⟨k+1,Ck,Mg,q,b5,b7⟩
    case measure=>simp[intOf];omega
  have q:Hid (R=true):=by unfold Hid;rw[<- Ba f,Brq Ck];rfl
  have kb:¬(k:Int)<(l.length:Int):=Ck;clear f;go_wp2;go_ret;exact⟨by rw[Ba q];rfl,j⟩
def Cd.mapMay(T:TI)(L:List Cd.Ins)(x:Rd.Mp):Bool:=(Cd.findAt x.place L).isSome&&(Cd.mapTys T L x.locals&&Cd.mapTys T L x.stack)
def Bhj(b:PBd)(f j:Nat)(x:Rd.Mp)(a0 a1:TA)(a2 a3:Nat)(w:TW)(l:b.ok w f)(b3:x.locals.length<=1000)(b4:x.stack.length<=1000)(a7:Cq w j (.s a0 x.locals.length a2) x.locals)(a8:Cq w j (.s a1 x.stack.length a3) x.stack):Calls prog 259 #[b.val,.agg #[.i x.place,.s a0 x.locals.length a2,.s a1 x.stack.length a3]] w fun e c=>e=.r (.bool (Cd.mapMay b.T b.L x))/\Bl w c:=by
 have m:=fun w (h:b.ok w f)=>Uo b.L b.la b.lc f x.place w h.2.1 h.2.2.2;have p:=fun c (h:Bl w c)=>Zw b f j x.locals a0 a2 c (l.below h) b3 (a7.kp (Kp.of_below (e:=none) h) Fm);have q:=fun c (h:Bl w c)=>Zw b f j x.stack a1 a3 c (l.below h) b4 (a8.kp (Kp.of_below (e:=none) h) Fm);have a9:∀c,Bl w c->b.ok c f:=fun c h=>l.below h;obtain⟨b5,b6,b7⟩:=x;unfold Cd.mapMay;simp only at m p q ⊢;generalize Cd.mapTys b.T b.L b6=M1 at *;generalize Cd.mapTys b.T b.L b7=M2 at *;generalize (Cd.findAt b5 b.L).isSome=B at *;obtain⟨c2,c3,c4,c5,c6,c7,tg,tc,ya,yn,yc,cl,nm,pa,pl,pc,r1,r2,lo,st,ca,cn,cc,ha,c8,hc,ma,ml,mc,la,lc,T,L⟩:=b;simp only[PBd.val]at m p q ⊢;have b8:=Bc m;have b9:=Bc p;have c0:=Bc q;have HO:=Bc a9;clear m p q a9 l a7 a8;go_in;go_wp2_with fail;refine Qm (Ba b8 _ (Ba HO _ (Bu _ _ _))) ?_;intro w1 t;have a4:=(Bu w _ _).trans (t.mono Fr);have v:=stay t (Cb w _ _);have g:=stay t (Bx w _ _);clear t;cases B with
 | false =>
  clear v g;go_wp2;go_ret;exact⟨rfl,a4⟩
 | true =>
  obtain⟨z,A,C,D,F,G,I,J,K,N,O,Q,V,Y,Z⟩:=Tk v;simp at z A C D F G I J K N O Q V Y Z;have x1:=Bb g 1;have x2:=Bb g 2;simp at x1 x2;go_wp2_with fail;refine Qb (Ba b9 _ a4) a4 ?_;intro w2 a5 a6;have b0:=stay a5 v;have b1:=stay a5 g;clear a5 x1 x2 z A C D F G I J K N O Q V Y Z v g;cases M1 with
  | false =>
   clear b0 b1;go_wp2;go_ret;exact⟨rfl,a6⟩
  | true =>
   obtain⟨z,A,C,D,F,G,I,J,K,N,O,Q,V,Y,Z⟩:=Tk b0;simp at z A C D F G I J K N O Q V Y Z;have x2:=Bb b1 2;simp at x2;go_wp2_with fail;refine Qm (Ba c0 _ a6) ?_;intro w3 c1;go_wp2;go_ret;exact⟨Hd,QB a6 c1⟩
def Cd.hndMay(T:TI)(L:List Cd.Ins)(cn:Int)(x:Rd.Hnd):Bool :=
 if x.til<=x.frm then false else if (Cd.findAt x.frm L).isSome=false then false else if (Cd.findAt x.target L).isSome=false then false
 else if x.til≠cn/\(Cd.findAt x.til L).isSome=false then false else Tr.within T x.cl 1
def Bhs(b:PBd)(K:Nat)(x:Rd.Hnd)(w:TW)(hb:b.ok w K):Calls prog 215 #[b.val,.agg #[.i x.frm,.i x.til,.i x.target,.i x.cl]] w fun e N=>e=.r (.bool (Cd.hndMay b.T b.L (b.cn:Int) x))/\Bl w N:=by
 have Z:=fun p w (h:b.ok w K)=>Uo b.L b.la b.lc K p w h.2.1 h.2.2.2;have a0:=fun w (h:b.ok w K)=>Pb (ya:=b.ya) (yn:=b.yn) (yc:=b.yc) b.T b.tg b.tc x.cl 1 w h.1 h.2.2.1;have b1:∀N,Bl w N->b.ok N K:=fun N h=>hb.below h;obtain⟨O,j,a3,b2⟩:=x;generalize Q:Cd.hndMay b.T b.L (b.cn:Int) ⟨O,j,a3,b2⟩=R;unfold Cd.hndMay at Q;simp only at a0 Q ⊢;have G:=fun w h=>Z O w h;have g:=fun w h=>Z a3 w h;have h3:=fun w h=>Z j w h;generalize (Cd.findAt O b.L).isSome=A at *;generalize (Cd.findAt a3 b.L).isSome=C at *;generalize (Cd.findAt j b.L).isSome=B at *;generalize Tr.within b.T b2 1=D at *;obtain⟨b6,b7,b8,b9,c0,c1,tg,tc,ya,yn,yc,cl,nm,pa,pl,pc,r1,r2,lo,st,ca,cn,cc,ha,c2,hc,ma,ml,mc,la,lc,T,L⟩:=b;simp only[PBd.val]at G g h3 a0 Q ⊢;have HA:=Bc G;have HC:=Bc g;have HB:=Bc h3;have HD:=Bc a0;have V:=Bc b1;clear Z G g h3 a0 b1 hb;have c:=Bc (fun (_:Unit)=>Q);clear Q;by_cases G:j<=O
 ·have f:Hid (R=false):=by unfold Hid;rw[<- Ba c ()];simp[G]
  clear c;go_in;go_wp2;go_ret;exact⟨by rw[Ba f];rfl,Bu _ _ _⟩
 go_in;go_wp2_with fail;refine Qm (Ba HA _ (Ba V _ (Bu _ _ _))) ?_;intro w1 a1;have a4:=(Bu w _ _).trans (a1.mono Fr);have I:=stay a1 (Cb w _ _);have a5:=stay a1 (Bx w _ _);clear a1;have l:=Bb I 2;have m:=Bb I 3;have q:=Bb I 11;have s:=Bb I 14;obtain⟨t,v,z,F⟩:=cl4 a5;simp at l m q s t v z F;cases A with
 | false =>
  have f:Hid (R=false):=by unfold Hid;rw[<- Ba c ()];simp
  clear c;go_wp2;go_ret;exact⟨by rw[Ba f];rfl,a4⟩
 | true =>
  go_wp2_with fail;refine Qb (Ba HC _ (Ba V _ a4)) a4 ?_;intro w2 a6 Y;have J:=stay a6 I;have a7:=stay a6 a5;clear a6 l m q s t v z F I a5;have l:=Bb J 2;have m:=Bb J 3;have q:=Bb J 11;have s:=Bb J 14;obtain⟨t,v,z,F⟩:=cl4 a7;simp at l m q s t v z F;cases C with
  | false =>
   have f:Hid (R=false):=by unfold Hid;rw[<- Ba c ()];simp
   clear c;go_wp2;go_ret;exact⟨by rw[Ba f];rfl,Y⟩
  | true =>
   by_cases g:j=(cn:Int)
   ·have b3:(j != (cn:Int))=false:=by simp[g]
    have b4:¬(cn:Int)<=O:=Ck;have f:Hid (R=D):=by unfold Hid;rw[<- Ba c ()];simp[g,b4]
    clear c g;go_wp2_with fail;refine Qm (Ba HD _ (Ba V _ Y)) ?_;intro w9 a8;go_wp2;go_ret;exact⟨by rw[Ba f];rfl,QB Y a8⟩
   have b3:(j != (cn:Int))=true:=by simp[g]
   go_wp2_with fail;refine Qb (Ba HB _ (Ba V _ Y)) Y ?_;intro w3 a9 b0;have a2:=stay a9 J;have b5:=stay a9 a7;clear a9 l m q s t v z F J a7;have l:=Bb a2 2;have m:=Bb a2 3;have q:=Bb a2 11;have s:=Bb a2 14;obtain⟨t,v,z,F⟩:=cl4 b5;simp at l m q s t v z F;cases B with
   | false =>
    have f:Hid (R=false):=by unfold Hid;rw[<- Ba c ()];simp[g]
    clear c;go_wp2;go_ret;exact⟨by rw[Ba f];rfl,b0⟩
   | true =>
    have f:Hid (R=D):=by unfold Hid;rw[<- Ba c ()];simp[G,g]
    clear c;go_wp2_with fail;refine Qm (Ba HD _ (Ba V _ b0)) ?_;intro w9 a8;go_wp2;go_ret;exact⟨by rw[Ba f];rfl,QB b0 a8⟩
def Bq9(l:List (Rd.Mth×Ex))(k:Nat)(b:k<l.length):(Lj l)[k*10]?=some (.i l[k].1.cl)/\k*10<(Lj l).length:=by
 have h:=Nk (fun x:Rd.Mth×Ex=>Mb x.1 x.2) 10 (fun _=>rfl) l k b 0 Ck;have c:=Kx (fun x:Rd.Mth×Ex=>Mb x.1 x.2) 10 (fun _=>rfl) l;refine⟨?_,?_⟩
 ·unfold Lj;rw[show k*10=k*10+0 by omega,h];rfl
 unfold Lj;rw[c];omega
def Cd.hasM(ow:TI)(n:Int)(ofc:Bool):Bool:=if n<0 then false else if (ow.length:Int)<=n then false else ((ow.getD n.toNat 0 != 255)==ofc)
def Bna(b:PBd)(C:Nat)(c:List (Rd.Mth×Ex))(n:Int)(h:Bool)(w:TW)(j:b.fl2=c.length)(G:c.length<=1000)(f:Eb w C (.s b.fa2 b.fl2 b.fc2) c):Calls prog 257 #[b.val,.i n,.bool h] w fun e D=>e=.r (.bool (Cd.hasM (c.map fun p=>p.1.cl) n h))/\Bl w D:=by
 unfold Cd.hasM;rw[Br1];obtain⟨I,J,K,N,O,Q,V,Y,ya,yn,yc,Z,nm,pa,pl,pc,r1,r2,lo,st,ca,cn,cc,ha,a0,hc,ma,ml,mc,la,lc,T,L⟩:=b;simp only at j f;subst j;simp only[PBd.val];by_cases l:n<0;·rw[Th l];go_in;go_wp2;go_ret;exact⟨rfl,QN _⟩
 rw[Pk l];by_cases m:(c.length:Int)<=n;·rw[Th m];go_in;go_wp2;go_ret;exact⟨rfl,QN _⟩
 rw[Pk m];obtain⟨q,rfl⟩:=Brp (show 0<=n by omega);have t:q<c.length:=Ck;obtain⟨g,F,a1,_,v⟩:=Cf f.1 Ck;obtain⟨z,A⟩:=Bq9 c q t;have y0:=(v _ A).trans z;have B:(c.map fun p=>p.1.cl).getD q 0=c[q].1.cl:=by simp[Vm,t]
 rw[Brx,B];generalize c[q].1.cl=oc at *;have kb:(q:Int)<(c.length:Int):=Ck;clear B z A v f;subst F;go_in;go_wp2;go_ret;exact⟨rfl,QN _⟩
def Cd.fieldSum:List Rd.Cls->Nat
 | []=>0
 | c::r=>c.fields.length+Cd.fieldSum r
def Bab(h B:TA)(j C D O:Nat)(l:List (Rd.Cls×Value))(w:TW)(hl:l.length<=6)(Q:∀p∈l,p.1.fields.length<=1000)(V:Fh w O (.s h l.length j) l):Calls prog 256 #[.agg #[.s h l.length j,.s B C D]] w fun e Y=>e=.r (.i (Cd.fieldSum (l.map Prod.fst):Int))/\Bl w Y:=by
 generalize F:(Cd.fieldSum (l.map Prod.fst):Int)=R;have b:Hid (((0+Cd.fieldSum ((l.map Prod.fst).drop 0):Nat):Int)=R):=by unfold Hid;rw[<- F];simp
 clear F;have G:Bl w (w.alloc (O1 h l.length j B C D)):=QN _;go_in;go_wp2
 go_loopw [3,9] (fun u v wr=>∃k t:Nat,k<=l.length/\v=.i (k:Int)/\u=.i (t:Int)/\t<=1000*k/\Hid (((t+Cd.fieldSum ((l.map Prod.fst).drop k):Nat):Int)=R)/\Bl w wr)
  (fun _ v _=>l.length-(intOf v).toNat)
 case atStart=>exact⟨0,0,Ck,rfl,rfl,Ck,b,G⟩
 case round=>
  clear b G;obtain⟨k,t,hk,rfl,rfl,a4,b,c⟩:=hrel;have Z:=c.size;by_cases f:k<l.length
  ·have m:=V.kp (Kp.of_below (e:=none) c) Fm Fm;obtain⟨g,hg,a5,_,q⟩:=Cf m.1 Ck;obtain⟨I,J,K⟩:=Nm l k f;have x0:=(q _ Ck).trans I;have x1:=(q _ K).trans J;obtain⟨ua,uc,L⟩:=Bh (m.2 _ (Brn f));rw[L]at x1;have a6:=Q _ (Brn f);have N:(l.map Prod.fst).drop k=l[k].1::(l.map Prod.fst).drop (k+1):=by
    rw[Brj (by simpa using f)];simp
   have z:=Ba b;rw[N,Cd.fieldSum]at z;generalize l[k].1.fields.length=A at *;generalize l[k].1.above=ab at *;have a0:Hid (((t+A+Cd.fieldSum ((l.map Prod.fst).drop (k+1)):Nat):Int)=R):=by unfold Hid;rw[<- z];omega
   have kb:(k:Int)<(l.length:Int):=Ck;have a3:=c.alloc Z (O5 ab ua A uc);clear z N q I J K m L b;subst hg;go_wp2;go_roundw
   case rel=>exact⟨k+1,t+A,Ck,Mg,Mg,Ck,a0,a3⟩
   case measure=>simp[intOf];omega
  have HF:Hid ((t:Int)=R):=by unfold Hid;rw[<- Ba b,Brq Fr];simp[Cd.fieldSum]
  have kb:¬(k:Int)<(l.length:Int):=Ck;clear b;go_wp2;go_ret;exact⟨by rw[<- Ba HF];rfl,c⟩
def Cd.argP(T:TI)(nf:Int)(ow:TI)(lo:Int)(L:List Cd.Ins)(op n:Int):Bool :=
 if op=2\/op=3 then decide (n<lo)
 else if 11<=op/\op<=14 then (Cd.findAt n L).isSome
 else if op=15\/op=16\/op=19 then Tr.hasB T n
 else if op=17\/op=18 then decide (n<nf)
 else if op=20 then Cd.hasM ow n false
 else if op=21 then Cd.hasM ow n true
 else true
def Bkh(b:PBd)(bb bm:Nat)(f:List (Rd.Cls×Value))(j:List (Rd.Mth×Ex))(p op n:Int)(w:TW)(hb:b.ok w bb)(a1:b.fl1=f.length)(a2:b.fl2=j.length)(b4:j.length<=1000)(b5:f.length<=6)(a8:∀p∈f,p.1.fields.length<=1000) (a3:Fh w bm (.s b.fa1 b.fl1 b.fc1) f)(a9:Eb w bm (.s b.fa2 b.fl2 b.fc2) j):Calls prog 214 #[b.val,.agg #[.i p,.i op,.i n]] w fun e g => e=.r (.bool (Cd.argP b.T (Cd.fieldSum (f.map Prod.fst):Int) (j.map fun p=>p.1.cl) b.lo b.L op n))/\Bl w g:=by
 have a4:=fun w (h:b.ok w bb)=>Uo b.L b.la b.lc bb n w h.2.1 h.2.2.2;have a5:=fun w=>A8 (ya:=b.ya) (yn:=b.yn) (yc:=b.yc) b.T (.p b.tg) b.tc n w;have a6:=fun o g (h:Bl w g)=>Bna b bm j n o g a2 b4 (a9.kp (Kp.of_below (e:=none) h) Fm Fm Fm Fm Fm);have a7:∀g,Bl w g->Calls prog 256 #[.agg #[.s b.fa1 b.fl1 b.fc1,.s b.fa2 b.fl2 b.fc2]] g fun e w2=>e=.r (.i (Cd.fieldSum (f.map Prod.fst):Int))/\Bl g w2:=by
  intro g h;rw[a1]at a3 ⊢;exact Bab b.fa1 b.fa2 b.fc1 b.fl2 b.fc2 bm f g b5 a8 (a3.kp (Kp.of_below (e:=none) h) Fm Fm)
 have b0:∀g,Bl w g->b.ok g bb:=fun g h=>hb.below h;generalize l:Cd.argP b.T (Cd.fieldSum (f.map Prod.fst):Int) (j.map fun p=>p.1.cl) b.lo b.L op n=R;unfold Cd.argP at l;generalize (Cd.fieldSum (f.map Prod.fst):Int)=nf at *;generalize Cd.hasM (j.map fun p=>p.1.cl) n=b1 at *;generalize (Cd.findAt n b.L).isSome=B at *;generalize Tr.hasB b.T n=K at *;obtain⟨t,c4,v,z,c5,A,F,G,ya,yn,yc,I,J,N,O,Q,V,Y,D,Z,ca,cn,cc,ha,a0,hc,ma,ml,mc,la,lc,T,L⟩:=b;simp only at a1 a2;subst a1 a2;simp only[PBd.val]at a4 a5 a6 a7 l ⊢;have b6:=Bc a4;have b7:=Bc a5;have b2:=Bc a6;have b3:=Bc a7;have HO:=Bc b0;clear a4 a5 a6 a7 b0 hb a3 a9 a8;by_cases c:op=2\/op=3
 ·rcases c with rfl|rfl
  all_goals
   have q:Hid (R=decide (n<D)):=by unfold Hid;rw[<- l];simp
   clear l;go_in;go_wp2;go_ret;exact⟨by rw[Ba q];rfl,Bu _ _ _⟩
 have n2:(op==2)=false:=Fr;have n3:(op==3)=false:=Fr;have i2:=c;clear c;by_cases c:op=11\/op=12\/op=13\/op=14
 ·rcases c with rfl|rfl|rfl|rfl
  all_goals
   have q:Hid (R=B):=by unfold Hid;rw[<- l];simp
   clear l;go_in;go_wp2_with fail;refine Qm (Ba b6 _ (Ba HO _ (Bu _ _ _))) ?_;intro w2 m;go_wp2;go_ret;exact⟨by rw[Ba q];rfl,(Bu _ _ _).trans (m.mono Fr)⟩
 have c6:(op==11)=false:=Fr;have c7:(op==12)=false:=Fr;have c8:(op==13)=false:=Fr;have c9:(op==14)=false:=Fr;have b8:=c;clear c;by_cases c:op=15\/op=16\/op=19
 ·rcases c with rfl|rfl|rfl
  all_goals
   have q:Hid (R=K):=by unfold Hid;rw[<- l];simp
   clear l;go_in;go_wp2_with fail;refine Qm (Ba b7 _) ?_;intro w2 m;go_wp2;go_ret;exact⟨by rw[Ba q];rfl,(Bu _ _ _).trans (m.mono Fr)⟩
 have d0:(op==15)=false:=Fr;have d1:(op==16)=false:=Fr;have d2:(op==19)=false:=Fr;have b9:=c;clear c;by_cases c:op=17
 ·subst c;have CB:=Cb w (O16 t f.length v z j.length A (.p F) T.length G ya yn yc I J N O Q V Y D Z ca cn cc ha a0 hc ma ml mc la L.length lc) (O15 p 17 n);have CI:=Bx w (O16 t f.length v z j.length A (.p F) T.length G ya yn yc I J N O Q V Y D Z ca cn cc ha a0 hc ma ml mc la L.length lc) (O15 p 17 n);have f0:((w.alloc (O16 t f.length v z j.length A (.p F) T.length G ya yn yc I J N O Q V Y D Z ca cn cc ha a0 hc ma ml mc la L.length lc)).alloc (O15 p 17 n)).C w.heap.size 0 (.s t f.length v):=Bb CB 0;have f1:((w.alloc (O16 t f.length v z j.length A (.p F) T.length G ya yn yc I J N O Q V Y D Z ca cn cc ha a0 hc ma ml mc la L.length lc)).alloc (O15 p 17 n)).C w.heap.size 1 (.s z j.length A):=Bb CB 1;have g2:((w.alloc (O16 t f.length v z j.length A (.p F) T.length G ya yn yc I J N O Q V Y D Z ca cn cc ha a0 hc ma ml mc la L.length lc)).alloc (O15 p 17 n)).C (w.heap.size+1) 2 (.i n):=Bb CI 2;have lF:=Sp CB;have lI:=Sp CI;have q:Hid (R=decide (n<nf)):=by unfold Hid;rw[<- l];simp
  clear l;go_in;go_wp2
  go_region_held3 (fun g=>g.C w.heap.size 0 (.s t f.length v)/\g.C w.heap.size 1 (.s z j.length A)/\g.C (w.heap.size+1) 2 (.i n))
   (first|exact⟨f0,f1,g2⟩|exact⟨QC m lF f0,QC m lF f1,QC m lI g2⟩)
   (first|(go_at_call 256;refine(Ba b3 _ (Bu _ _ _).drew).mono ?_;rintro e w2 ⟨rfl,m⟩))
  all_goals
   go_wp2;go_ret;exact⟨by rw[Ba q];rfl,(Bu _ _ _).drew.trans (m.mono Fr)⟩
 have d3:(op==17)=false:=by simp[c]
 have c0:=c;clear c;by_cases c:op=18
 ·subst c;have CB:=Cb w (O16 t f.length v z j.length A (.p F) T.length G ya yn yc I J N O Q V Y D Z ca cn cc ha a0 hc ma ml mc la L.length lc) (O15 p 18 n);have CI:=Bx w (O16 t f.length v z j.length A (.p F) T.length G ya yn yc I J N O Q V Y D Z ca cn cc ha a0 hc ma ml mc la L.length lc) (O15 p 18 n);have f0:((w.alloc (O16 t f.length v z j.length A (.p F) T.length G ya yn yc I J N O Q V Y D Z ca cn cc ha a0 hc ma ml mc la L.length lc)).alloc (O15 p 18 n)).C w.heap.size 0 (.s t f.length v):=Bb CB 0;have f1:((w.alloc (O16 t f.length v z j.length A (.p F) T.length G ya yn yc I J N O Q V Y D Z ca cn cc ha a0 hc ma ml mc la L.length lc)).alloc (O15 p 18 n)).C w.heap.size 1 (.s z j.length A):=Bb CB 1;have g2:((w.alloc (O16 t f.length v z j.length A (.p F) T.length G ya yn yc I J N O Q V Y D Z ca cn cc ha a0 hc ma ml mc la L.length lc)).alloc (O15 p 18 n)).C (w.heap.size+1) 2 (.i n):=Bb CI 2;have lF:=Sp CB;have lI:=Sp CI;have q:Hid (R=decide (n<nf)):=by unfold Hid;rw[<- l];simp
  clear l;go_in;go_wp2
  go_region_held3 (fun g=>g.C w.heap.size 0 (.s t f.length v)/\g.C w.heap.size 1 (.s z j.length A)/\g.C (w.heap.size+1) 2 (.i n))
   (first|exact⟨f0,f1,g2⟩|exact⟨QC m lF f0,QC m lF f1,QC m lI g2⟩)
   (first|(go_at_call 256;refine(Ba b3 _ (Bu _ _ _).drew).mono ?_;rintro e w2 ⟨rfl,m⟩))
  all_goals
   go_wp2;go_ret;exact⟨by rw[Ba q];rfl,(Bu _ _ _).drew.trans (m.mono Fr)⟩
 have d4:(op==18)=false:=by simp[c]
 have c1:=c;clear c;by_cases c:op=20
 ·subst c;have q:Hid (R=b1 false):=by unfold Hid;rw[<- l];simp
  clear l;go_in;go_wp2_with fail;refine Qm (Ba b2 false _ (Bu _ _ _)) ?_;intro w2 m;go_wp2;go_ret;exact⟨by rw[Ba q];rfl,(Bu _ _ _).trans (m.mono Fr)⟩
 have d5:(op==20)=false:=by simp[c]
 have c2:=c;clear c;by_cases c:op=21
 ·subst c;have q:Hid (R=b1 true):=by unfold Hid;rw[<- l];simp
  clear l;go_in;go_wp2_with fail;refine Qm (Ba b2 true _ (Bu _ _ _)) ?_;intro w2 m;go_wp2;go_ret;exact⟨by rw[Ba q];rfl,(Bu _ _ _).trans (m.mono Fr)⟩
 have d6:(op==21)=false:=by simp[c]
 have c3:=c;clear c;have q:Hid (R=true):=by
  unfold Hid;rw[<- l,Pk Ck,Pk Ck,Pk Ck,Pk Ck,Pk Ck,Pk Ck]
 clear l i2 b8 b9 c0 c1 c2 c3;go_in;go_wp2;go_ret;exact⟨by rw[Ba q];rfl,Bu _ _ _⟩
def Cd.inMaps(T:TI)(L:List Cd.Ins):Nat->Int->List Rd.Mp->Int
 | _,_,[]=>-1
 | i,low,x::r=>if x.place<low then (i:Int) else if Cd.mapMay T L x=false then (i:Int) else Cd.inMaps T L (i+1) (x.place+1) r
def Cd.faultOf(r:Int):Int × Int:=if r<0 then (0,0) else (7,r)
def Bhq(b:PBd)(bb b2:Nat)(c:List (Rd.Mp×Value×Value))(w:TW)(hb:b.ok w bb)(b9:b.ml=c.length)(f2:c.length<=1000)(c0:∀p∈c,p.1.locals.length<=1000/\p.1.stack.length<=1000/\-1000<=p.1.place/\p.1.place<=1000)(c1:Mf w b2 (.s b.ma b.ml b.mc) c):Calls prog 216 #[b.val] w fun e m => e=.r (.agg #[.i (Cd.faultOf (Cd.inMaps b.T b.L 0 0 (c.map Prod.fst))).1,.i 0,.i (Cd.faultOf (Cd.inMaps b.T b.L 0 0 (c.map Prod.fst))).2])/\Bl w m:=by
 have b0:=fun x q t z A m (h:Bl w m) h1 h2 h3 h4=>Bhj b bb b2 x q t z A m (hb.below h) h1 h2 h3 h4;have b1:∀m,Bl w m->Mf m b2 (.s b.ma b.ml b.mc) c:=fun m h=>c1.kp (Kp.of_below (e:=none) h) Fm Fm;generalize F:Cd.inMaps b.T b.L 0 0 (c.map Prod.fst)=r;have B:Hid (Cd.inMaps b.T b.L 0 0 ((c.map Prod.fst).drop 0)=r):=F;generalize hF:Cd.faultOf r=Fa;have HF:=Bc hF;clear F hF hb c1;obtain⟨V,Y,Z,a0,a1,a2,tg,tc,ya,yn,yc,cl,nm,pa,pl,pc,r1,r2,lo,st,ca,cn,cc,ha,a3,hc,ma,ml,mc,la,lc,T,L⟩:=b;simp only at b9;subst b9;simp only[PBd.val]at b0 b1 B ⊢;have d4:=Bc b0;have d5:=Bc b1;have d6:=Bc c0;clear b0 b1 c0;have c2:=Bu w (O16 V Y Z a0 a1 a2 (.p tg) T.length tc ya yn yc cl nm pa pl pc r1 r2 lo st ca cn cc ha a3 hc ma c.length mc la L.length lc) (O8 0 0 0);have c3:=Cb w (O16 V Y Z a0 a1 a2 (.p tg) T.length tc ya yn yc cl nm pa pl pc r1 r2 lo st ca cn cc ha a3 hc ma c.length mc la L.length lc) (O8 0 0 0);have c4:=Bx w (O16 V Y Z a0 a1 a2 (.p tg) T.length tc ya yn yc cl nm pa pl pc r1 r2 lo st ca cn cc ha a3 hc ma c.length mc la L.length lc) (O8 0 0 0);go_in;go_wp2
 go_loopw [3,10] (fun u v wr=>∃(k:Nat) (a4:Int),k<=c.length/\v=.i (k:Int)/\u=.i a4/\Hid (Cd.inMaps T L k a4 ((c.map Prod.fst).drop k)=r)/\Bl w wr /\
   wr.heap[w.heap.size]?=some (O16 V Y Z a0 a1 a2 (.p tg) T.length tc ya yn yc cl nm pa pl pc r1 r2 lo st ca cn cc ha a3 hc ma c.length mc la L.length lc)/\wr.heap[w.heap.size+1]?=some (O8 0 0 0))
  (fun _ v _=>c.length-(intOf v).toNat)
 case atStart=>exact⟨0,0,Ck,rfl,rfl,B,c2,c3,c4⟩
 case round=>
  clear B c2 c3 c4;obtain⟨k,a4,hk,rfl,rfl,B,K,CB,G⟩:=hrel;obtain⟨m0,m1,m2,m3,m4,m5,m6,m7,m8,m9,c5,c6,c7,c8,c9⟩:=Tk CB;simp at m0 m1 m2 m3 m4 m5 m6 m7 m8 m9 c5 c6 c7 c8 c9;have d7:=K.size;have lB:=Sp CB;have lR:=Sp G;by_cases l:k<c.length
  ·have b3:=Ba d5 _ K;obtain⟨g,hg,f3,_,a5⟩:=Cf b3.1 Ck;have y0:=(a5 _ (Eh c k l 0 Ck).2).trans (Eh c k l 0 Ck).1;have y1:=(a5 _ (Eh c k l 1 Ck).2).trans (Eh c k l 1 Ck).1;have y2:=(a5 _ (Eh c k l 2 Ck).2).trans (Eh c k l 2 Ck).1;obtain⟨a6,a7⟩:=b3.2 _ (Brn l);obtain⟨d0,d1,d8,d9⟩:=Ba d6 _ (Brn l);have hd:(c.map Prod.fst).drop k=c[k].1::(c.map Prod.fst).drop (k+1):=by
    rw[Brj (by simpa using l)];simp
   have F:=Ba B;rw[hd,Cd.inMaps]at F;generalize c[k]=x at *;obtain⟨⟨f,I,J⟩,v1,v2⟩:=x;simp only at y0 y1 y2 a6 a7 d0 d1 F d8 d9;obtain⟨q,z,rfl⟩:=Bh a6;obtain⟨t,A,rfl⟩:=Bh a7;simp at y0 y1 y2;have a8:=K.alloc d7 (O17 f q I.length z t J.length A);have b4:Bl wr (wr.alloc (O17 f q I.length z t J.length A)):=QN _;have b5:=Ba d4 ⟨f,I,J⟩ q t z A _ a8 d0 d1 (a6.kp (Kp.of_below (e:=none) b4) Fm) (a7.kp (Kp.of_below (e:=none) b4) Fm);simp only at b5;generalize Cd.mapMay T L ⟨f,I,J⟩=M at *;have d2:=Be wr (O17 f q I.length z t J.length A);have d3:=Bg CB (O17 f q I.length z t J.length A);have b6:=Bg G (O17 f q I.length z t J.length A);have HM:=Bc b5;have N:=Bc F;have kb:(k:Int)<(c.length:Int):=Ck;clear b5 F hd a5 B a6 a7 b3 b4;subst hg;by_cases b7:f<a4
   ·have Q:Hid (Fa=(7,(k:Int))):=by
     unfold Hid;rw[<- Ba HF,<- Ba N,Th b7,Cd.faultOf,Pk Ck]
    obtain⟨q0,q1,q2⟩:=fr3 G;obtain⟨j,C,D⟩:=cl3 G;simp at j C D;clear N HM;go_wp2_with fail;refine tb (.agg #[.i 7,.i 0,.i (k:Int)]) (by simp[results,Bwh,go_sem,j,C,D,lR]) ?_;rw[Ba Q];exact⟨rfl,by repeat (first|refine Bry ?_ Hd _|refine Bs4 ?_ (by first|omega|(simp;omega)) _|exact K)⟩
   cases M with
   | false =>
    have Q:Hid (Fa=(7,(k:Int))):=by
     unfold Hid;rw[<- Ba HF,<- Ba N,Pk b7,Th rfl,Cd.faultOf,Pk Ck]
    clear N;go_wp2_with fail;refine Qb (Ba HM) a8 ?_;intro w2 O b8;have a9:=stay O b6;obtain⟨q0,q1,q2⟩:=fr3 a9;obtain⟨j,C,D⟩:=cl3 a9;simp at j C D;go_wp2_with fail;refine tb (.agg #[.i 7,.i 0,.i (k:Int)]) (by simp[results,Bwh,go_sem,j,C,D]) ?_;rw[Ba Q];exact⟨rfl,((b8.setCell Hd _).setCell Hd _).setCell Hd _⟩
   | true =>
    have HG:Hid (Cd.inMaps T L (k+1) (f+1) ((c.map Prod.fst).drop (k+1))=r):=by unfold Hid;rw[<- Ba N,Pk b7];simp
    clear N;go_wp2_with fail;refine Qb (Ba HM) a8 ?_;intro w2 O b8;have f0:=stay O d3;have a9:=stay O b6;have f1:=stay O d2;have j:=Bb f1 0;simp at j;clear O a8 d3 b6 d2 K CB G m0 m1 m2 m3 m4 m5 m6 m7 m8 m9 c5 c6 c7 c8 c9 y0 y1 y2;go_wp2;go_roundw
    case rel=>exact⟨k+1,f+1,Ck,Mg,Mg,HG,b8,f0,a9⟩
    case measure=>simp[intOf];omega
  have Q:Hid (Fa=(0,0)):=by
   unfold Hid;rw[<- Ba HF,<- Ba B,Brq Fr];rfl
  have kb:¬(k:Int)<(c.length:Int):=Ck;obtain⟨q0,q1,q2⟩:=fr3 G;obtain⟨j,C,D⟩:=cl3 G;simp at j C D;clear B;go_wp2_with fail;refine tb (.agg #[.i 0,.i 0,.i 0]) (by simp[results,Bwh,go_sem,j,C,D]) ?_;rw[Ba Q];exact⟨rfl,((K.setCell Hd _).setCell Hd _).setCell Hd _⟩
namespace Cd
def Bf6(b:TI)(n:Int)(h:0<=n):hasM b n false=(decide (n<(b.length:Int))&&(b.getD n.toNat 0==255))/\hasM b n true=(decide (n<(b.length:Int))&&(b.getD n.toNat 0 != 255)):=by
 unfold hasM;have e:¬n<0:=Ck;simp only[Pk e];by_cases c:(b.length:Int)<=n;·have:decide (n<(b.length:Int))=false:=Fr;simp only[Th c,this];simp
 have:decide (n<(b.length:Int))=true:=Fr;simp only[Pk c,this];cases f:(b.getD n.toNat 0 != 255)<;>simp_all
def argP_eq(T:TI)(m:Int)(f:TI)(p:Int)(c:TI)(op n:Int)(h:op=20\/op=21->0<=n):argP T m f p (insts c) op n=argB T m f p c op n:=by
 unfold argP argB;rw[find_beg];by_cases g:op=2\/op=3;·rw[Th g,Th g]
 rw[Pk g,Pk g];by_cases i:11<=op/\op<=14;·rw[Th i,Th i]
 rw[Pk i,Pk i];by_cases j:op=15\/op=16\/op=19;·rw[Th j,Th j]
 rw[Pk j,Pk j];by_cases l:op=17\/op=18;·rw[Th l,Th l]
 rw[Pk l,Pk l];by_cases b:op=20;·rw[Th b,Th b];exact(Bf6 f n (h (.inl b))).1
 rw[Pk b,Pk b];by_cases e:op=21;·rw[Th e,Th e];exact(Bf6 f n (h (.inr e))).2
 rw[Pk e,Pk e]
def Bmx(T c:TI)(k n:Int):mapTy T (insts c) k n=framed T c k n:=by
 unfold mapTy framed Tr.settledB Tr.plainB;by_cases b:k=4;·rw[Th b,Bnd,Pk Ck,Pk Ck,Th b]
 rw[Pk b];by_cases f:k=0\/k=2;·rw[Th f,Th Ck]
 rw[Pk f];by_cases g:k=1;·rw[Th g,Th Ck]
 have q:¬(k=0\/k=1\/k=2):=Ck;rw[Pk g,Pk q];by_cases e:k=3;·rw[Th e,Th e]
 rw[Pk e,Pk e,Pk b]
def Ba6(T c:TI)(l:TP):mapTys T (insts c) l=frAll T c l:=by
 unfold mapTys frAll
 congr 1
 funext t
 exact Bmx T c t.1 t.2
def inMaps_eq(T c:TI)(l:List Rd.Mp):∀(i:Nat) (b:Int),inMaps T (insts c) i b l=mapsBad T c i (b-1) l:=by
 induction l with
 | nil=>intro i b;rfl
 | cons x r ih =>
  intro i b;rw[inMaps,mapsBad,ih];unfold mapMay;rw[find_beg,Ba6,Ba6];by_cases e:x.place<b;·rw[Th e,Th (show x.place<=b-1 by omega)];simp
  rw[Pk e,Pk (show ¬x.place<=b-1 by omega)];cases begB c x.place<;>cases frAll T c x.locals<;>cases frAll T c x.stack<;>simp
def hndMay_eq{z:TI}(m:Tr.Ok z)(A:1<z.length)(c:TI)(x:Rd.Hnd):hndMay z (insts c) (c.length:Int) x = !hndBad z c x:=by
 have p:Tr.within z x.cl 1=(if x.cl=1 then true else Tr.below z x.cl 1):=by
  unfold Tr.within;by_cases h:x.cl=1<;>simp[h]
 unfold hndMay hndBad;rw[find_beg,find_beg,find_beg,p];by_cases f:x.til<=x.frm;·rw[Th f];simp[f]
 rw[Pk f];have q:decide (x.til<=x.frm)=false:=by simpa using f
 rw[q];cases begB c x.frm
 ·simp
 cases begB c x.target
 ·simp
 have s:(if x.cl=1 then true else Tr.below z x.cl 1)=(Tr.hasB z x.cl&&Tr.rbel z x.cl 1):=by
  by_cases i:Tr.hasB z x.cl=true
  ·rw[i,Bts];have j:0<=x.cl/\x.cl<(z.length:Int):=by simpa[Tr.hasB] using i
   have e:=Tr.rbel_iff m (a:=x.cl) (b:=1) j.1 j.2 Ck;by_cases h:x.cl=1;·rw[Th h];exact(e.2 (.inl h.symm)).symm
   rw[Pk h];refine Bool.eq_iff_iff.2 ⟨fun g=>e.2 (.inr g),fun g=>?_⟩;rcases e.1 g with g|g
   ·exact absurd g.symm h
   exact g
  have t:Tr.hasB z x.cl=false:=by simpa using i
  rw[t,Bt6];have B:¬(0<=x.cl/\x.cl<(z.length:Int)):=by simpa[Tr.hasB] using i
  rw[Pk Ck];have v:Tr.ov z x.cl = -1:=by
   unfold Tr.ov;by_cases g:x.cl<0;·rw[Th g]
   rw[Pk g,Th Ck]
  unfold Tr.below;rw[v];cases z.length<;>simp[Tr.upTo]
 rw[s];by_cases l:x.til=(c.length:Int);·cases begB c x.til<;>cases Tr.hasB z x.cl<;>cases Tr.rbel z x.cl 1<;>simp[l]
 cases begB c x.til<;>cases Tr.hasB z x.cl<;>cases Tr.rbel z x.cl 1<;>simp[l]
def Beb(a b:List Rd.Cls):fieldSum (a++b)=fieldSum a+fieldSum b:=by
 induction a with
 | nil=>simp[fieldSum]
 | cons x r ih=>rw[Bs5,fieldSum,fieldSum,ih];omega
def fields_eq(T:TI)(b:List Rd.Cls)(j:Nat)(f:j<=b.length):(Rf.fieldsTo T (Rf.given++b) j).length=fieldSum (b.take j):=by
 induction j with
 | zero=>simp[Rf.fieldsTo,fieldSum]
 | succ k ih =>
  have c:k<b.length:=Ck;have e:(Rf.given++b).getD (7+k) ⟨0,[]⟩=b[k]:=by
   rw[Vm,Br0 (by simp[Rf.given])];simp[Rf.given,c]
  rw[Rf.fieldsTo,Ws,Rf.ownOf,Na,e,ih Ck,Bss c,Beb];simp[fieldSum]
end Cd
def Ju (f:Cd.Ins->Bool):List Cd.Ins->Int
 | []=>-1
 | x::r=>if f x=true then x.place else Ju f r
def Lp (T:TI)(nf:Int)(ow:TI)(lo:Int)(L:List Cd.Ins)(x:Cd.Ins):Bool:=!Cd.argP T nf ow lo L x.op x.n
def N3 (T:TI)(L:List Cd.Ins)(cn:Int)(x:Rd.Hnd):Bool:=!Cd.hndMay T L cn x
def Mt (T:TI)(nf:Int)(ow:TI)(m:Rd.Mth):Int × Int :=
 if 0<=Cd.unread m.code then (5,Cd.unread m.code)
 else if 0<=Ju (Lp T nf ow m.locals (Cd.insts m.code)) (Cd.insts m.code) then (5,Ju (Lp T nf ow m.locals (Cd.insts m.code)) (Cd.insts m.code))
 else if 0<=Cd.firstIx (N3 T (Cd.insts m.code) (m.code.length:Int)) 0 m.handlers then (6,Cd.firstIx (N3 T (Cd.insts m.code) (m.code.length:Int)) 0 m.handlers)
 else Cd.faultOf (Cd.inMaps T (Cd.insts m.code) 0 0 m.maps)
def Gn (T:TI)(nf:Int)(ow:TI):Nat->List Rd.Mth->Int × Int × Int
 | _,[]=>(0,0,0)
 | k,m::r=>if (Mt T nf ow m).1≠0 then ((Mt T nf ow m).1,(k:Int),(Mt T nf ow m).2) else Gn T nf ow (k+1) r
def No (T:TI)(r1 r2:Int):Bool:=if r1=0/\r2=0 then true else Tr.plainB T r1 r2
def Le (a b:Rd.Mth):Bool:=if a.result≠b.result then false else decide (a.params=b.params)
def N2 (T:TI)(m:Rd.Mth):Bool :=
 if Tr.allPlainB T m.params=false then false else if No T m.result.1 m.result.2=false then false
 else if m.cl=255 then (if m.name=0 then decide ((m.params.length:Int)<=m.locals) else false)
 else if m.cl<7 then false else if Tr.hasB T m.cl=false then false else decide ((m.params.length:Int)<m.locals)
def Kt (m o:Rd.Mth):Bool:=(o.cl==m.cl)&&(o.name==m.name)
def Hu (T:TI)(m o:Rd.Mth):Bool:=(o.name==m.name)&&(Tr.below T m.cl o.cl && !Le o m)
def Ox (es:List Rd.Mth)(m:Rd.Mth):Bool:=if m.cl=255 then false else es.any (Kt m)
def Ku (T:TI)(ms:List Rd.Mth)(m:Rd.Mth):Bool:=if m.cl=255 then false else ms.any (Hu T m)
def Sl (T:TI)(ms:List Rd.Mth)(k:Nat)(m:Rd.Mth):Bool :=
 if N2 T m=false then true else if Ox (ms.take k) m=true then true else Ku T ms m
def Iu (T:TI)(ms:List Rd.Mth):Nat->List Rd.Mth->Int
 | _,[]=>-1
 | k,m::r=>if Sl T ms k m=true then (k:Int) else Iu T ms (k+1) r
def Vb (T:TI)(nf:Int)(ms:List Rd.Mth):Int × Int × Int :=
 if 0<=Iu T ms 0 ms then (4,Iu T ms 0 ms,0) else Gn T nf (ms.map Rd.Mth.cl) 0 ms
def Lo (f:Rd.Fil):Int × Int × Int :=
 if (Tr.inCl (Tr.tree f.classes) 0 f.classes).1≠0 then ((Tr.inCl (Tr.tree f.classes) 0 f.classes).1,(Tr.inCl (Tr.tree f.classes) 0 f.classes).2,0)
 else Vb (Tr.tree f.classes) (Cd.fieldSum f.classes:Int) f.methods
def Gx (s:TB):Int × Int × Int:=if (Rd.read s).2≠0 then ((Rd.read s).2,0,0) else Lo (Rd.read s).1
def Wy{f:Nat->Bool}{l:List Nat}(h:Cd.first f l<0):∀p∈l,f p=false:=by
 induction l with
 | nil=>simp
 | cons p r ih =>
  obtain⟨c,e⟩:=Bbk h;intro q b;simp only[Bub]at b;rcases b with rfl|b
  ·exact c
  exact ih e q b
def Bnq{z:TI}{c:Int}{e:TI}{B:Int}{b:TI}{op:Int}(h:Cd.wd op=1)(n f:Int):Cd.argB z c e B b op n=Cd.argB z c e B b op f:=by
 unfold Cd.wd at h;have i:¬(op=0\/op=2\/op=3\/(11<=op/\op<=21)):=by
  intro g;rw[Th g]at h;omega
 unfold Cd.argB;rw[Pk Ck,Pk Ck,Pk Ck,Pk Ck,Pk Ck,Pk Ck];rw[Pk Ck,Pk Ck,Pk Ck,Pk Ck,Pk Ck,Pk Ck]
def Vx{z:TI}(b:∀x∈z,0<=x)(i:Nat):0<=z.getD i 0:=by
 rw[Vm];by_cases h:i<z.length;·rw[Brl h];exact b _ (Brn h)
 rw[Bs3 Ck];simp
def Bhx{z:TI}{c:Int}{e:TI}{B:Int}{b:TI}(j:∀x∈b,0<=x)(f:List Nat)(g:∀p∈f,Cd.noRead b p=false):Ju (Lp z c e B (Cd.insts b)) (f.map (Cd.insAt b))=Cd.first (Cd.badArg z c e B b) f:=by
 induction f with
 | nil=>rfl
 | cons p r ih =>
  rw[Bsw,Ju,Cd.first,ih (fun q l=>g q (Bsh _ l))]
  have h:=g p (Bsd ..);unfold Cd.noRead at h;simp only[Bty,Bti]at h;have m:Lp z c e B (Cd.insts b) (Cd.insAt b p)=Cd.badArg z c e B b p:=by
   unfold Lp Cd.badArg Cd.argAt Cd.insAt;simp only;have s:=Cd.wd_bd (b.getD p 0);by_cases i:Cd.wd (b.getD p 0)=2;·rw[Th i,Cd.argP_eq z c e B b _ _ (fun _=>Vx j _)];unfold Cd.nAt;rw[Th Ck]
   rw[Pk i,Cd.argP_eq z c e B b _ _ (fun _=>Ck),Bnq Ck 0 (Cd.nAt b p)]
  rw[m];rfl
def Bhw{α:Type}{f g:α->Bool}(h:∀x,f x=g x)(l:List α):∀k,Cd.firstIx f k l=Cd.firstIx g k l:=by
 induction l with
 | nil=>intro k;rfl
 | cons x r ih=>intro k;rw[Cd.firstIx,Cd.firstIx,h x,ih]
def Bpd{z:TI}(i:Tr.Ok z)(j:1<z.length)(c:Int)(e:TI)(m:Rd.Mth)(l:∀x∈m.code,0<=x):Mt z c e m=Mu z c e m:=by
 unfold Mt Mu Cd.badCode;by_cases b:0<=Cd.unread m.code;·rw[Th b,Th b,Th b]
 rw[Pk b,Pk b];have p:Ju (Lp z c e m.locals (Cd.insts m.code)) (Cd.insts m.code)=Cd.first (Cd.badArg z c e m.locals m.code) (Cd.places m.code) :=
  Bhx l (Cd.places m.code) (Wy (by unfold Cd.unread at b;omega))
 have s:Cd.firstIx (N3 z (Cd.insts m.code) (m.code.length:Int)) 0 m.handlers=Cd.firstIx (Cd.hndBad z m.code) 0 m.handlers :=
  Bhw (fun x=>by unfold N3;rw[Cd.hndMay_eq i j];simp) m.handlers 0
 rw[p,s,Cd.inMaps_eq];by_cases f:0<=Cd.first (Cd.badArg z c e m.locals m.code) (Cd.places m.code)
 ·rw[Th f,Th f]
 rw[Pk f,Pk f];by_cases g:0<=Cd.firstIx (Cd.hndBad z m.code) 0 m.handlers;·rw[Th g,Th g]
 rw[Pk g,Pk g];rw[show ((0:Int)-1) = -1 from rfl];generalize Cd.mapsBad z m.code 0 (-1) m.maps=q;unfold Cd.faultOf;by_cases h:q<0;·rw[Th h,Pk Ck]
 rw[Pk h,Th Ck]
def Bk7{z:TI}(f:Tr.Ok z)(g:1<z.length)(b:Int)(c:TI)(l:List Rd.Mth)(e:∀m∈l,∀x∈m.code,0<=x):∀k,Gn z b c k l=Je z b c k l:=by
 induction l with
 | nil=>intro k;rfl
 | cons m r ih =>
  intro k;rw[Gn,Je,Bpd f g b c m (e m (Bsd ..)),ih (fun x h=>e x (Bsh _ h))]
def Bh8{z:TI}(b:Tr.Ok z){a:Int}(c:0<=a)(e:a<(z.length:Int)):Tr.below z a a=false:=by
 cases h:Tr.below z a a with
 | false=>rfl
 | true=>have:=Tr.below_lt b c e h;omega
def Bk8{z:TI}(c:Tr.Ok z){a B:Int}(e:0<=B)(f:a<(z.length:Int))(g:a<=B):Tr.below z a B=false:=by
 cases h:Tr.below z a B with
 | false=>rfl
 | true=>have:=Tr.below_lt c e f h;omega
def Bnj{z:TI}(f:Tr.Ok z)(A:z.length<=200)(m o:Rd.Mth)(l:0<=m.cl)(h:m.cl<(z.length:Int))(q:0<=o.cl)(k i:Nat):Mi z m.cl m.name m.result.1 m.result.2 m.params k i o=((decide (i<k)&&Kt m o)||Hu z m o):=by
 unfold Mi Kt Hu;by_cases c:o.name≠m.name
 ·rw[Th c];have:(o.name==m.name)=false:=by simpa using c
  rw[this];simp
 rw[Pk c];have s:(o.name==m.name)=true:=by simpa using c
 rw[s];by_cases j:o.cl=255;·rw[Th j,j,Bk8 f Ck h Ck];have:((255:Int)==m.cl)=false:=Fr;rw[this];simp
 rw[Pk j];by_cases b:o.cl=m.cl;·rw[Th b,b,Bh8 f l h];simp
 rw[Pk b];have t:(o.cl==m.cl)=false:=by simpa using b
 have v:Tr.rbel z m.cl o.cl=Tr.below z m.cl o.cl:=by
  have e:=Tr.rbel_iff f l h q;refine Bool.eq_iff_iff.2 ⟨fun g=>?_,fun g=>e.2 (.inr g)⟩;rcases e.1 g with g|g
  ·exact absurd g b
  exact g
 rw[t,v];unfold Le;by_cases p:o.result=m.result;·simp[p]
 simp[p]
def Bop{z:TI}(e:Tr.Ok z)(f:z.length<=200)(m:Rd.Mth)(g:0<=m.cl)(h:m.cl<(z.length:Int))(k:Nat)(l:List Rd.Mth)(b:∀o∈l,0<=o.cl):∀i,Im z m.cl m.name m.result.1 m.result.2 m.params k i l=(!(l.take (k-i)).any (Kt m) && !l.any (Hu z m)):=by
 induction l with
 | nil=>intro i;simp[Im]
 | cons o r ih =>
  intro i;rw[Im,Bnj e f m o g h (b o (Bsd ..)),ih (fun x j=>b x (Bsh _ j))];by_cases c:i<k
  ·rw[show k-i=(k-(i+1))+1 by omega,Buy,Buj,Buj];have:decide (i<k)=true:=by simpa using c
   rw[this];cases Kt m o<;>cases Hu z m o<;>simp
  rw[show k-i=0 by omega,show k-(i+1)=0 by omega,Buj];have:decide (i<k)=false:=by simpa using c
  rw[this];cases Hu z m o<;>simp
def Bo6{z:TI}(l:Tr.Ok z)(p:z.length<=200)(e:List Rd.Mth)(q:∀o∈e,0<=o.cl)(k:Nat)(m:Rd.Mth)(C:0<=m.cl):Sl z e k m = !Hv z e k m:=by
 unfold Sl Hv On N2 No Ox Ku Vf Lv;cases D:Tr.allPlainB z m.params with
 | false=>simp
 | true =>
  have s:(if m.result.1=0/\m.result.2=0 then true else Tr.plainB z m.result.1 m.result.2) = !(!Tr.plainB z m.result.1 m.result.2 && !decide ((m.result.1,m.result.2)=((0:Int),(0:Int)))):=by
   by_cases h:m.result.1=0/\m.result.2=0;·rw[Th h];simp[h]
   rw[Pk h];have:decide ((m.result.1,m.result.2)=((0:Int),(0:Int)))=false:=by simpa using h
   rw[this];simp
  rw[s];generalize (!Tr.plainB z m.result.1 m.result.2 && !decide ((m.result.1,m.result.2)=((0:Int),(0:Int))))=R;cases R with
  | true=>simp
  | false =>
   by_cases c:m.cl=255
   ·simp only[Th c];by_cases b:m.name=0
    ·by_cases f:(m.params.length:Int)<=m.locals;·have g:¬m.locals<(m.params.length:Int):=Ck;simp[c,b,f,g]
     have g:m.locals<(m.params.length:Int):=Ck;simp[c,b,f,g]
    simp[b]
   simp only[Pk c];by_cases b:m.cl<7;·simp[b]
   cases f:Tr.hasB z m.cl with
   | false=>simp[b]
   | true =>
    have i:0<=m.cl/\m.cl<(z.length:Int):=by simpa[Tr.hasB] using f
    by_cases j:(m.params.length:Int)<m.locals;·have t:¬m.locals<(m.params.length:Int):=Ck;have v:¬m.locals=(m.params.length:Int):=Ck;rw[Bop l p m i.1 i.2 k e q 0];simp only[Nat.sub_zero];cases (e.take k).any (Kt m)<;>cases e.any (Hu z m)<;>simp[c,b,j,t,v]
    by_cases A:m.locals<(m.params.length:Int);·simp[c,b,j,A]
    have B:m.locals=(m.params.length:Int):=Ck;simp[c,b,B]
def Bm9{z:TI}(e:Tr.Ok z)(f:z.length<=200)(b:List Rd.Mth)(g:∀o∈b,0<=o.cl)(l:List Rd.Mth)(c:∀o∈l,0<=o.cl):∀k,Iu z b k l=Gt z b k l:=by
 induction l with
 | nil=>intro k;rfl
 | cons m r ih =>
  intro k;rw[Iu,Gt,Bo6 e f b g k m (c m (Bsd ..)),ih (fun x h=>c x (Bsh _ h))];cases Hv z b k m<;>simp
def Bfx{z:TI}(e:Tr.Ok z)(g:z.length<=200)(h:1<z.length)(c:Int)(b:List Rd.Mth)(f:∀o∈b,0<=o.cl)(i:∀m∈b,∀x∈m.code,0<=x):Vb z c b=Rg z c b:=by
 unfold Vb Rg;rw[Bm9 e g b f b f,Bk7 e h c _ b i]
structure Rz(m:Rd.Mth):Prop where
 ps:m.params.length<=8
 code:m.code.length<=120
 code0:∀x∈m.code,0<=x
 hs:m.handlers.length<=4
 mp:m.maps.length<=64
 fr:∀p∈m.maps,p.locals.length<=8/\p.stack.length<=8/\0<=p.place/\p.place<=255
 cl:0<=m.cl
def Bra(s:TB)(L H:Int)(c:L<=8)(b:0<=H)(e:H<=8)(t:Rd.St):(Rd.mp s L H t).1.locals.length<=8/\(Rd.mp s L H t).1.stack.length<=8/\0<=(Rd.mp s L H t).1.place/\(Rd.mp s L H t).1.place<=255:=by
 simp only[Rd.mp,Rd.tys,Rd.rep_len];have:=Rd.cn_bd s 0 H (Rd.rep (Rd.ty s) L.toNat (Rd.nx s t).2).2 b;have:=Rd.nx_bd s t;omega
def Bol(s:TB)(t:Rd.St):Rz (Rd.mth s t).1:=by
 simp only[Rd.mth];generalize (Rd.nx s (Rd.nx s t).2).2=b;have i:=Rd.cn_bd s 0 4 b Ck;generalize Rd.cn s 0 4 b=p at *;generalize (Rd.tys s p.1.toNat p.2).2=f;generalize (Rd.ty s f).2=c;have g:=Rd.cn_bd s 0 8 c Ck;generalize Rd.cn s 0 8 c=l at *;have e:=Rd.cn_bd s 0 8 l.2 Ck;generalize Rd.cn s 0 8 l.2=h at *;refine⟨?_,?_,?_,?_,?_,?_,?_⟩
 ·simp only[Rd.tys,Rd.rep_len];omega
 ·simp only[Rd.codes,Rd.rep_len];have:=Rd.cn_bd s 1 120 h.2 Ck;omega
 ·simp only[Rd.codes];exact Ot (fun x:Int=>0<=x) _ (fun t=>Bdf s t) _ _
 ·simp only[Rd.hnds,Rd.rep_len];have:=Rd.cn_bd s 0 4 (Rd.codes s h.2).2 Ck;omega
 ·simp only[Rd.mps,Rd.rep_len];have:=Rd.cn_bd s 0 64 (Rd.hnds s (Rd.codes s h.2).2).2 Ck;omega
 ·simp only[Rd.mps];exact Ot (fun p:Rd.Mp=>p.locals.length<=8/\p.stack.length<=8/\0<=p.place/\p.place<=255) _ (fun t=>Bra s l.1 h.1 g.2 e.1 e.2 t) _ _
 exact Bdf s t
def Yo(s:TB):(Rd.read s).1.methods.length<=6/\∀m∈(Rd.read s).1.methods,Rz m:=by
 unfold Rd.read
 split
 ·simp
 split
 ·simp
 simp only[Rd.fil];refine⟨?_,Ot Rz _ (fun t=>Bol s t) _ _⟩;rw[Rd.rep_len];have:=Rd.cn_bd s 1 6 (Rd.rep (Rd.cls s) (Rd.cn s 0 6 (Rd.ex s 77 (Rd.ex s 83 ⟨0,false⟩))).1.toNat (Rd.cn s 0 6 (Rd.ex s 77 (Rd.ex s 83 ⟨0,false⟩))).2).2 Ck;omega
def Bki(l:TI)(b:List Rd.Cls):∀k:Nat,((Tr.inCl l k b).1=0\/(Tr.inCl l k b).1=3)/\0<=(Tr.inCl l k b).2:=by
 induction b with
 | nil=>intro k;exact⟨.inl rfl,by show (0:Int)<=0;omega⟩
 | cons c r ih =>
  intro k;unfold Tr.inCl
  split
  ·exact⟨.inr rfl,by show (0:Int)<=7+(k:Int);omega⟩
  split
  ·exact⟨.inr rfl,by show (0:Int)<=7+(k:Int);omega⟩
  exact ih _
def Rn(s:TB):Gx s=Rf.formed s:=by
 obtain⟨b,z⟩:=Yp s;have f:=Bh1 s;obtain⟨A,j⟩:=Yo s;obtain⟨B,_⟩:=Aw s;unfold Gx Rf.formed Rf.nf;unfold Rf.classed at f ⊢;by_cases g:15000<s.length;·rw[Th g]at b;rw[b];simp[g]
 rw[Pk g]at b;simp only[Pk g]at f ⊢;by_cases i:(Rf.fil s).2.2≠(s.length:Int);·rw[Th i]at b;rw[b];simp[i]
 rw[Pk i]at b;simp only[Pk i]at f ⊢;rw[Pk (by rw[b];simp)];obtain⟨p,q⟩:=z b;unfold Lo;rw[p]at B;rw[q]at A j;rw[p,q];have t:=Bki (Tr.tree (Rf.fil s).1) (Rf.fil s).1 0;have v:=Cd.fields_eq (Tr.tree (Rf.fil s).1) (Rf.fil s).1 (Rf.fil s).1.length (Bru _);rw[Buv]at v;rw[v];generalize J:Tr.inCl (Tr.tree (Rf.fil s).1) 0 (Rf.fil s).1=I at *;by_cases c:I.1=0
 ·have l:¬0<=Tr.badOf I:=by unfold Tr.badOf;rw[Th c];omega
  simp only[Pk l]at f ⊢;rw[Pk (fun h=>h c),Pk Hd];have C:=(f trivial).1;have K:=Ie (Rf.fil s).1;exact Bfx C Ck Ck _ _ (fun o D=>(j o D).cl) (fun m F=>(j m F).code0)
 have l:0<=Tr.badOf I:=by unfold Tr.badOf;rw[Pk c];exact t.2
 have e:Tr.badOf I=I.2:=by unfold Tr.badOf;rw[Pk c]
 have G:I.1=3:=t.1.resolve_left c;rw[Th c,Th l,Th Hd,e,G]
structure PM where
 cl:Int
 nm:Int
 pa:Option Addr
 pl:Nat
 pc:Nat
 r1:Int
 r2:Int
 lo:Int
 st:Int
 ca:Option Addr
 cn:Nat
 cc:Nat
 ha:Option Addr
 hl:Nat
 hc:Nat
 ma:Option Addr
 ml:Nat
 mc:Nat
def PM.val(m:PM):Value:=.agg #[.int .i64 m.cl,.int .i64 m.nm,.slice m.pa m.pl m.pc,.int .i64 m.r1,.int .i64 m.r2,.int .i64 m.lo,.int .i64 m.st,.slice m.ca m.cn m.cc,.slice m.ha m.hl m.hc,.slice m.ma m.ml m.mc]
def PM.list(m:PM):List Value:=[.int .i64 m.cl,.int .i64 m.nm,.slice m.pa m.pl m.pc,.int .i64 m.r1,.int .i64 m.r2,.int .i64 m.lo,.int .i64 m.st,.slice m.ca m.cn m.cc,.slice m.ha m.hl m.hc,.slice m.ma m.ml m.mc]
structure PM.is(m:PM)(x:Rd.Mth)(w:World)(bb:Nat):Prop where
 cl:m.cl=x.cl
 nm:m.nm=x.name
 r1:m.r1=x.result.1
 r2:m.r2=x.result.2
 lo:m.lo=x.locals
 st:m.st=x.stack
 pl:m.pl=x.params.length
 ps:Cq w bb (.slice m.pa m.pl m.pc) x.params
 cn:m.cn=x.code.length
 code:De w bb (.slice m.ca m.cn m.cc) x.code
 hl:m.hl=x.handlers.length
 hs:K8 w bb (.slice m.ha m.hl m.hc) x.handlers
 ml:m.ml=x.maps.length
 mp:Bn6 w bb (.slice m.ma m.ml m.mc) x.maps
def PM.is.kp{m:PM}{x:Rd.Mth}{w s:TW}{u:Nat}(h:m.is x w u){e:Option TypeId}(b:Kp e u w s)(c:some 31≠e)(f:some 3≠e)(g:some 267≠e)(i:some 266≠e):m.is x s u:=by
 obtain⟨j,p,q,t,v,z,A,B,C,D,F,G,I,l,J,K⟩:=h;exact⟨j,p,q,t,v,z,A,B.kp b c,C,D.kp b f,F,G.kp b g,I,l,J,K.kp b i c⟩
def PM.is.below{m:PM}{x:Rd.Mth}{w s:TW}{u:Nat}(h:m.is x w u)(b:Bl w s):m.is x s u:=h.kp (Kp.of_below (e:=none) b) Fm Fm Fm Fm
def Bqg(l:List (Rd.Mth×Ex))(k:Nat)(b:k<l.length)(j:Nat)(c:j<10):(Lj l)[k*10+j]?=(Mb l[k].1 l[k].2)[j]?/\k*10+j<(Lj l).length:=by
 refine⟨Nk (fun x:Rd.Mth×Ex=>Mb x.1 x.2) 10 (fun _=>rfl) l k b j c,?_⟩;unfold Lj;rw[Kx (fun x:Rd.Mth×Ex=>Mb x.1 x.2) 10 (fun _=>rfl) l];omega
theorem Eb.mth{w:World}{u:Nat}{a:Option Addr}{n t:Nat}{T:List (Rd.Mth×Ex)}(h:Eb w u (.slice a n t) T){k:Nat}(A:k<T.length):∃(m:PM) (g:Nat),a=some ⟨g,0,none⟩/\g<w.heap.size/\(∀j v,m.list[j]?=some v->w.cell? ⟨g,k*10+j,none⟩=some v)/\m.is T[k].1 w u:=by
 obtain⟨B,I⟩:=h;obtain⟨xa,xc,C⟩:=Bh B;simp only[Value.slice.injEq]at C;obtain⟨rfl,rfl,rfl⟩:=C;obtain⟨g,J,K,_,L⟩:=Cf B Ck;obtain⟨f,i,p,q,D,s⟩:=I _ (Brn A);have F:=fun j z=>Bqg T k A j z;generalize T[k]=x at *;obtain⟨x,e⟩:=x;obtain⟨up,uc,uh,um⟩:=e;simp only at f i p s F;obtain⟨N,O,rfl⟩:=Bh f;obtain⟨Q,V,rfl⟩:=Bh i;obtain⟨Y,Z,rfl⟩:=Bh p;obtain⟨ma,mc,rfl⟩:=Bh s.1;have a0:q.length=x.maps.length:=by rw[<- D];simp
 refine⟨⟨x.cl,x.name,N,x.params.length,O,x.result.1,x.result.2,x.locals,x.stack,Q,x.code.length,V,Y,x.handlers.length,Z,ma,q.length,mc⟩,g,J,K,?_,⟨rfl,rfl,rfl,rfl,rfl,rfl,rfl,f,rfl,i,rfl,p,a0,q,D,s⟩⟩;intro j v G;have z:j<10:=by
  have:=(List.getElem?_eq_some_iff.1 G).1;simpa[PM.list] using this
 obtain⟨e1,e2⟩:=F j z;rw[L _ e2,e1,<- G];rfl
def T5{m:PM}{w:TW}{u k:Nat}(h:∀j v,m.list[j]?=some v->w.C u (k*10+j) v):w.C u (k*10) (.i m.cl)/\w.C u (k*10+1) (.i m.nm)/\w.C u (k*10+2) (.s m.pa m.pl m.pc)/\w.C u (k*10+3) (.i m.r1)/\w.C u (k*10+4) (.i m.r2)/\w.C u (k*10+5) (.i m.lo)/\w.C u (k*10+6) (.i m.st)/\w.C u (k*10+7) (.s m.ca m.cn m.cc)/\w.C u (k*10+8) (.s m.ha m.hl m.hc)/\w.C u (k*10+9) (.s m.ma m.ml m.mc) :=
 ⟨h 0 _ rfl,h 1 _ rfl,h 2 _ rfl,h 3 _ rfl,h 4 _ rfl,h 5 _ rfl,h 6 _ rfl,h 7 _ rfl,h 8 _ rfl,h 9 _ rfl⟩
variable {ya:Option Addr}{yn yc:Nat}
def Bb1(T:TI)(a:TA)(f:Nat)(k n:Int)(w:TW):Calls prog 211 #[.agg #[.s a T.length f,.s ya yn yc],.agg #[.i k,.i n]] w fun e l=>e=.r (.bool (No T k n))/\Bl w l:=by
 have g:=fun w=>Rq (ya:=ya) (yn:=yn) (yc:=yc) T a f k n w;unfold No;generalize Tr.plainB T k n=P at *;have j:=Bc g;clear g;by_cases h:k=0/\n=0;·rw[Th h];obtain⟨rfl,rfl⟩:=h;go_in;go_wp2;go_ret;exact⟨rfl,Bu _ _ _⟩
 rw[Pk h];by_cases b:k=0
 ·subst b;have m:(n==0)=false:=by simpa using h
  clear h;go_in;go_wp2_with fail;refine Qm (Ba j _) ?_;intro p c;go_wp2;go_ret;exact⟨rfl,(Bu _ _ _).trans (c.mono Fr)⟩
 have m:(k==0)=false:=by simpa using b
 clear h b;go_in;go_wp2_with fail;refine Qm (Ba j _) ?_;intro p c;go_wp2;go_ret;exact⟨rfl,(Bu _ _ _).trans (c.mono Fr)⟩
def Bfd(T:TI)(a:TA)(Z bb:Nat)(m:PM)(x:Rd.Mth)(w:TW)(V:m.is x w bb)(a6:x.params.length<=1000):Calls prog 159 #[.agg #[.s a T.length Z,.s ya yn yc],m.val] w fun e w'=>e=.r (.bool (N2 T x))/\Bl w w':=by
 have hA:=fun w' (h:Bl w w')=>Tl (ya:=ya) (yn:=yn) (yc:=yc) T a Z m.pa m.pl m.pc bb x.params w' a6 (V.below h).ps;have hR:=fun w=>Bb1 (ya:=ya) (yn:=yn) (yc:=yc) T a Z m.r1 m.r2 w;have hH:=fun w=>A8 (ya:=ya) (yn:=yn) (yc:=yc) T a Z m.cl w;generalize b:N2 T x=R;unfold N2 at b;rw[<- V.cl,<- V.nm,<- V.r1,<- V.r2,<- V.lo,<- V.pl]at b;generalize Tr.allPlainB T x.params=A at *;clear V a6;obtain⟨O,nm,pa,pl,pc,r1,r2,lo,st,ca,cn,cc,ha,hl,hc,ma,ml,mc⟩:=m;simp only[PM.val]at hA hR hH b ⊢;generalize No T r1 r2=B at *;generalize Tr.hasB T O=K at *;have HA:=Bc hA;have HR:=Bc hR;have HH:=Bc hH;clear hA hR hH;have Y:=Bu w (O2 a T.length Z ya yn yc) (O18 O nm pa pl pc r1 r2 lo st ca cn cc ha hl hc ma ml mc);have a1:=Cb w (O2 a T.length Z ya yn yc) (O18 O nm pa pl pc r1 r2 lo st ca cn cc ha hl hc ma ml mc);have a2:=Bx w (O2 a T.length Z ya yn yc) (O18 O nm pa pl pc r1 r2 lo st ca cn cc ha hl hc ma ml mc);have a0:=Bc (Ba HA _ Y);clear HA;cases A with
 | false =>
  have G:Hid (R=false):=by unfold Hid;rw[<- b];simp
  clear b;go_in;go_wp2_with fail;refine Qm (Ba a0) ?_;intro w1 z;go_wp2;go_ret;exact⟨by rw[Ba G];rfl,QB Y z⟩
 | true =>
  cases B with
  | false =>
   have G:Hid (R=false):=by unfold Hid;rw[<- b];simp
   clear b;go_in;go_wp2_with fail;refine Qb (Ba a0) Y ?_;intro w1 z L;have I:=stay z a1;have F:=stay z a2;obtain⟨C,D⟩:=cl2 I;simp at C D;obtain⟨c,f,g,i,j,l,p,q,t,v⟩:=Nj F;simp at c f g i j l p q t v;go_wp2_with fail;refine Qm (Ba HR _) ?_;intro w2 J;go_wp2;go_ret;exact⟨by rw[Ba G];rfl,QB L J⟩
  | true =>
   have a3:Hid ((if O=255 then (if nm=0 then decide ((pl:Int)<=lo) else false) else if O<7 then false else if K=false then false else decide ((pl:Int)<lo))=R):=by unfold Hid;rw[<- b];simp
   clear b;by_cases h1:O=255
   ·subst h1;have b:=Ba a3;rw[Th rfl]at b;clear a3;by_cases h2:nm=0;·subst h2;rw[Th rfl]at b;have G:=Bc b;clear b;go_in;go_wp2_with fail;refine Qb (Ba a0) Y ?_;intro w1 z L;have I:=stay z a1;have F:=stay z a2;obtain⟨C,D⟩:=cl2 I;simp at C D;obtain⟨c,f,g,i,j,l,p,q,t,v⟩:=Nj F;simp at c f g i j l p q t v;go_wp2_with fail;refine Qb (Ba HR _) L ?_;intro w2 J Q;have N:=stay J F;clear c f g i j l p q t v;obtain⟨c,f,g,i,j,l,p,q,t,v⟩:=Nj N;simp at c f g i j l p q t v;go_wp2;go_ret;exact⟨by rw[<- Ba G];rfl,Q⟩
    rw[Pk h2]at b;have a9:(nm==0)=false:=by simpa using h2
    have G:=Bc b;clear b h2;go_in;go_wp2_with fail;refine Qb (Ba a0) Y ?_;intro w1 z L;have I:=stay z a1;have F:=stay z a2;obtain⟨C,D⟩:=cl2 I;simp at C D;obtain⟨c,f,g,i,j,l,p,q,t,v⟩:=Nj F;simp at c f g i j l p q t v;go_wp2_with fail;refine Qb (Ba HR _) L ?_;intro w2 J Q;have N:=stay J F;clear c f g i j l p q t v;obtain⟨c,f,g,i,j,l,p,q,t,v⟩:=Nj N;simp at c f g i j l p q t v;go_wp2;go_ret;exact⟨by rw[<- Ba G];rfl,Q⟩
   have b:=Ba a3;rw[Pk h1]at b;have b0:(O==255)=false:=by simpa using h1
   clear a3 h1;by_cases h2:O<7;·rw[Th h2]at b;have G:=Bc b;clear b;go_in;go_wp2_with fail;refine Qb (Ba a0) Y ?_;intro w1 z L;have I:=stay z a1;have F:=stay z a2;obtain⟨C,D⟩:=cl2 I;simp at C D;obtain⟨c,f,g,i,j,l,p,q,t,v⟩:=Nj F;simp at c f g i j l p q t v;go_wp2_with fail;refine Qb (Ba HR _) L ?_;intro w2 J Q;have N:=stay J F;clear c f g i j l p q t v;obtain⟨c,f,g,i,j,l,p,q,t,v⟩:=Nj N;simp at c f g i j l p q t v;go_wp2;go_ret;exact⟨by rw[<- Ba G];rfl,Q⟩
   rw[Pk h2]at b;cases K with
   | false =>
    rw[Th rfl]at b;have G:=Bc b;clear b;go_in;go_wp2_with fail;refine Qb (Ba a0) Y ?_;intro w1 z L;have I:=stay z a1;have F:=stay z a2;obtain⟨C,D⟩:=cl2 I;simp at C D;obtain⟨c,f,g,i,j,l,p,q,t,v⟩:=Nj F;simp at c f g i j l p q t v;go_wp2_with fail;refine Qb (Ba HR _) L ?_;intro w2 J Q;have N:=stay J F;have a4:=stay J I;clear c f g i j l p q t v C D;obtain⟨C,D⟩:=cl2 a4;simp at C D;obtain⟨c,f,g,i,j,l,p,q,t,v⟩:=Nj N;simp at c f g i j l p q t v;go_wp2_with fail;refine Qm (Ba HH _) ?_;intro w3 a5;go_wp2;go_ret;exact⟨by rw[<- Ba G];rfl,QB Q a5⟩
   | true =>
    rw[Pk Hd]at b;have G:=Bc b;clear b;go_in;go_wp2_with fail;refine Qb (Ba a0) Y ?_;intro w1 z L;have I:=stay z a1;have F:=stay z a2;obtain⟨C,D⟩:=cl2 I;simp at C D;obtain⟨c,f,g,i,j,l,p,q,t,v⟩:=Nj F;simp at c f g i j l p q t v;go_wp2_with fail;refine Qb (Ba HR _) L ?_;intro w2 J Q;have N:=stay J F;have a4:=stay J I;clear c f g i j l p q t v C D;obtain⟨C,D⟩:=cl2 a4;simp at C D;obtain⟨c,f,g,i,j,l,p,q,t,v⟩:=Nj N;simp at c f g i j l p q t v;go_wp2_with fail;refine Qb (Ba HH _) Q ?_;intro w3 a5 a7;have a8:=stay a5 N;clear c f g i j l p q t v C D;obtain⟨c,f,g,i,j,l,p,q,t,v⟩:=Nj a8;simp at c f g i j l p q t v;go_wp2;go_ret;exact⟨by rw[<- Ba G];rfl,a7⟩
def Bhp(b:List Rd.Mth)(ea:TA)(ec:Nat)(m:PM)(x:Rd.Mth)(w:TW)(I:m.cl=x.cl)(a2:m.nm=x.name)(c5:b.length<=1000) (HM:∀l,Bl w l->∀k (hk:k<b.length),∃(o:PM) (g:Nat),ea=some ⟨g,0,none⟩/\g<l.heap.size/\(∀j v,o.list[j]?=some v->l.C g (k*10+j) v)/\o.cl=b[k].cl/\o.nm=b[k].name):Calls prog 160 #[.s ea b.length ec,m.val] w fun e l=>e=.r (.bool (Ox b x))/\Bl w l:=by
 generalize c:Ox b x=R;unfold Ox at c;rw[<- I]at c;have J:∀o,Kt x o=((o.cl==m.cl)&&(o.name==m.nm)):=fun o=>by unfold Kt;rw[I,a2]
 obtain⟨f,p,K,L,N,O,Q,V,Y,Z,cn,cc,ha,hl,hc,ma,ml,mc⟩:=m;simp only[PM.val]at c J ⊢;have c2:=Bc HM;have c3:=Bc J;have a0:Bl w (w.alloc (O18 f p K L N O Q V Y Z cn cc ha hl hc ma ml mc)):=QN _;have a3:=Be w (O18 f p K L N O Q V Y Z cn cc ha hl hc ma ml mc);clear HM J I a2;by_cases t:f=255;·subst t;rw[Th rfl]at c;have q:=Bc c;clear c;go_in;go_wp2;go_ret;exact⟨by rw[<- Ba q];rfl,a0⟩
 rw[Pk t]at c;have c6:(f==255)=false:=by simpa using t
 have h:Hid ((b.drop 0).any (Kt x)=R):=c;clear c t;go_in;go_wp2
 go_loopw [12] (fun v wr=>∃k:Nat,k<=b.length/\v=.i (k:Int)/\Hid ((b.drop k).any (Kt x)=R)/\Bl w wr/\wr.heap[w.heap.size]?=some (O18 f p K L N O Q V Y Z cn cc ha hl hc ma ml mc))
  (fun v _=>b.length-(intOf v).toNat)
 case atStart=>exact⟨0,Ck,rfl,h,a0,a3⟩
 case round=>
  clear h a0 a3;obtain⟨k,hk,rfl,h,z,CM⟩:=hrel;have c4:=z.size;have lM:=Sp CM;obtain⟨m0,m1⟩:=cl2 CM;simp at m0 m1;by_cases a4:k<b.length
  ·obtain⟨o,g,hg,c7,A,e1,e2⟩:=Ba c2 _ z k a4;replace A:=T5 A;have hd:b.drop k=b[k]::b.drop (k+1):=Brj a4;have c:=Ba h;rw[hd,Buj,Ba c3,<- e1,<- e2]at c;obtain⟨B,D,a5,a6,a7,a8,a9,b0,b1,b2,b3,b4,b5,b6,b7,b8,b9,c0⟩:=o;simp only at A c;obtain⟨y0,y1,y2,y3,y4,y5,y6,y7,y8,y9⟩:=A;have kb:(k:Int)<(b.length:Int):=Ck;have a1:=z.alloc c4 (O18 B D a5 a6 a7 a8 a9 b0 b1 b2 b3 b4 b5 b6 b7 b8 b9 c0);have c1:=Bg CM (O18 B D a5 a6 a7 a8 a9 b0 b1 b2 b3 b4 b5 b6 b7 b8 b9 c0);clear hd e1 e2 h;subst hg;by_cases F:B=f
   ·subst F;by_cases G:D=p
    ·subst G;have q:Hid (R=true):=by unfold Hid;rw[<- c];simp
     clear c;go_wp2;go_ret;exact⟨by rw[Ba q];rfl,a1⟩
    have HG:Hid ((b.drop (k+1)).any (Kt x)=R):=by unfold Hid;rw[<- c];simp[G]
    have c8:(D==p)=false:=by simpa using G
    clear c G;go_wp2;go_roundw
    case rel=>exact⟨k+1,Ck,Mg,HG,a1,c1⟩
    case measure=>simp[intOf];omega
   have HG:Hid ((b.drop (k+1)).any (Kt x)=R):=by unfold Hid;rw[<- c];simp[F]
   have c9:(B==f)=false:=by simpa using F
   clear c F;go_wp2;go_roundw
   case rel=>exact⟨k+1,Ck,Mg,HG,a1,c1⟩
   case measure=>simp[intOf];omega
  have q:Hid (R=false):=by unfold Hid;rw[<- Ba h,Brq Ck];rfl
  have kb:¬(k:Int)<(b.length:Int):=Ck;clear h;go_wp2;go_ret;exact⟨by rw[Ba q];rfl,z⟩
def Bcr(o m:PM)(y x:Rd.Mth)(Q:Nat)(w:TW)(J:o.is y w Q)(K:m.is x w Q)(d4:y.params.length<=1000)(d5:x.params.length<=1000):Calls prog 213 #[o.val,m.val] w fun e f=>e=.r (.bool (Le y x))/\Bl w f:=by
 generalize b:Le y x=R;unfold Le at b;have hy:y.result=(o.r1,o.r2):=by rw[J.r1,J.r2]
 have hx:x.result=(m.r1,m.r2):=by rw[K.r1,K.r2]
 rw[hy,hx]at b;have a0:∀f,Bl w f->Cq f Q (.s o.pa o.pl o.pc) y.params:=fun f h=>(J.below h).ps;have a4:∀f,Bl w f->Cq f Q (.s m.pa m.pl m.pc) x.params:=fun f h=>(K.below h).ps;have eo:=J.pl;have em:=K.pl;clear hy hx J K;generalize y.params=A at *;generalize x.params=B at *;obtain⟨a5,a6,a7,d6,a8,j,l,a9,b0,b4,b5,b6,b7,b8,b9,c0,c1,c2⟩:=o;obtain⟨V,Y,Z,pl,pc,C,D,lo,st,ca,cn,cc,ha,hl,hc,ma,ml,mc⟩:=m;simp only at eo em;subst eo em;simp only[PM.val]at b a0 a4 ⊢;have HO:=Bc a0;have HM:=Bc a4;have L:=Bu w (O18 a5 a6 a7 A.length a8 j l a9 b0 b4 b5 b6 b7 b8 b9 c0 c1 c2) (O18 V Y Z B.length pc C D lo st ca cn cc ha hl hc ma ml mc);have c8:=Cb w (O18 a5 a6 a7 A.length a8 j l a9 b0 b4 b5 b6 b7 b8 b9 c0 c1 c2) (O18 V Y Z B.length pc C D lo st ca cn cc ha hl hc ma ml mc);have c5:=Bx w (O18 a5 a6 a7 A.length a8 j l a9 b0 b4 b5 b6 b7 b8 b9 c0 c1 c2) (O18 V Y Z B.length pc C D lo st ca cn cc ha hl hc ma ml mc);clear a0 a4;by_cases F:j=C/\l=D
 ·rw[Pk (by simp[F])]at b;obtain⟨rfl,rfl⟩:=F;by_cases h2:A.length=B.length
  ·have t:Hid (decide (A.drop 0=B.drop 0)=R):=b;have c9:((A.length:Int) != (B.length:Int))=false:=by simp[h2]
   have d7:A.length<=B.length:=Ck;have d8:B.length<=A.length:=Ck;clear b h2;go_in;go_wp2
   go_loopw [24] (fun v wr=>∃k:Nat,k<=A.length/\v=.i (k:Int)/\Hid (decide (A.drop k=B.drop k)=R)/\Bl w wr/\wr.heap[w.heap.size+1]?=some (O18 V Y Z B.length pc j l lo st ca cn cc ha hl hc ma ml mc))
    (fun v _=>A.length-(intOf v).toNat)
   case atStart=>exact⟨0,Ck,rfl,t,L,c5⟩
   case round=>
    clear t L c5 c8;obtain⟨k,hk,rfl,t,N,CM⟩:=hrel;have d0:=N.size;have lM:=Sp CM;have m2:=Bb CM 2;simp at m2;by_cases c6:k<A.length
    ·have c7:k<B.length:=Ck;obtain⟨ga,d1,d9,_,c3⟩:=Cf (Ba HO _ N) Ck;obtain⟨gb,d2,f0,_,c4⟩:=Cf (Ba HM _ N) Ck;obtain⟨a1,a2,a3⟩:=Fu A k c6;obtain⟨b1,b2,b3⟩:=Fu B k c7;have x0:=(c3 (k*2) Ck).trans a1;have x1:=(c3 (k*2+1) Ck).trans a2;have y0:=(c4 (k*2) Ck).trans b1;have y1:=(c4 (k*2+1) Ck).trans b2;have b:=Ba t;rw[Tj c6 c7]at b;have kb:(k:Int)<(A.length:Int):=Ck;have f1:(k:Int)<(B.length:Int):=Ck;have f2:decide ((B.length:Int)<=(k:Int))=false:=Fr;generalize A[k]=p at *;generalize B[k]=q at *;obtain⟨G,I⟩:=p;obtain⟨q1,q2⟩:=q;simp only at x0 x1 y0 y1;have c:=N.alloc d0 (O7 G I);have d3:=Bg CM (O7 G I);have f3:¬((B.length:Int)<=(k:Int)):=Ck;clear c3 c4 a1 a2 a3 b1 b2 b3 t;subst d1 d2;by_cases O:G=q1/\I=q2
     ·obtain⟨rfl,rfl⟩:=O;have HG:Hid (decide (A.drop (k+1)=B.drop (k+1))=R):=by unfold Hid;rw[<- b];simp
      clear b;go_wp2_with (go_quiet (fail))
      go_wp2;go_roundw
      case rel=>exact⟨k+1,Ck,Mg,HG,⟨c.os,c.tape,c.output,c.size,c.block⟩,d3⟩
      case measure=>simp[intOf];omega
     have g:Hid (R=false):=by
      unfold Hid;have:decide ((G,I)=(q1,q2))=false:=by simpa using O
      rw[<- b,this];rfl
     clear b;by_cases z:q1=G
     ·subst z;have h5:(q2==I)=false:=by
       have:¬q2=I:=fun h=>O ⟨rfl,h.symm⟩;simpa using this
      clear O;go_wp2_with (go_quiet (fail))
      go_wp2;go_ret;exact⟨by rw[Ba g];rfl,⟨c.os,c.tape,c.output,c.size,c.block⟩⟩
     have h5:(q1==G)=false:=by simpa using z
     clear O z;go_wp2_with (go_quiet (fail))
     go_wp2;go_ret;exact⟨by rw[Ba g];rfl,⟨c.os,c.tape,c.output,c.size,c.block⟩⟩
    have g:Hid (R=true):=by unfold Hid;rw[<- Ba t,Brq Ck,Brq Ck];rfl
    have kb:¬(k:Int)<(A.length:Int):=Ck;clear t;go_wp2;go_ret;exact⟨by rw[Ba g];rfl,N⟩
  have g:Hid (R=false):=by
   unfold Hid;rw[<- b];simp only[Bti];intro h;exact h2 (by rw[h])
  have c9:((A.length:Int) != (B.length:Int))=true:=Fr;clear b h2;go_in;go_wp2;go_ret;exact⟨by rw[Ba g];rfl,L⟩
 rw[Th (by simpa using F)]at b;have g:=Bc b;clear b;by_cases z:j=C
 ·subst z;have h5:(l==D)=false:=by
   have:¬l=D:=fun h=>F ⟨rfl,h⟩;simpa using this
  clear F;go_in;go_wp2;go_ret;exact⟨by rw[<- Ba g];rfl,L⟩
 have h5:(j==C)=false:=by simpa using z
 clear F z;go_in;go_wp2;go_ret;exact⟨by rw[<- Ba g];rfl,L⟩
variable {ya:Option Addr}{yn yc:Nat}
def Bad(c5 a1:TA)(c6 c7 a2:Nat)(b:List (Rd.Mth×Ex))(T:TI)(N a3 O:Nat)(m:PM)(x:Rd.Mth)(w:TW)(hm:m.is x w O)(hT:T.length<=1000)(f1:Dy w N T) (g9:b.length<=6)(f2:Eb w O (.s a1 b.length a2) b)(f8:x.params.length<=1000)(f3:∀p∈b,p.1.params.length<=1000):Calls prog 161 #[.agg #[.s c5 c6 c7,.s a1 b.length a2],.agg #[.s (.p N) T.length a3,.s ya yn yc],m.val] w fun e c=>e=.r (.bool (Ku T (b.map Prod.fst) x))/\Bl w c:=by
 generalize f:Ku T (b.map Prod.fst) x=R;unfold Ku at f;rw[<- hm.cl]at f;have c8:∀o,Hu T x o=((o.name==m.nm)&&(Tr.below T m.cl o.cl && !Le o x)):=fun o=>by unfold Hu;rw[hm.cl,hm.nm]
 have c9:=fun h c (hb:Bl w c)=>W2 (ya:=ya) (yn:=yn) (yc:=yc) T N a3 m.cl h c hT (f1.below hb);have d0:=fun (o:PM) (y:Rd.Mth) c (hb:Bl w c) (ho:o.is y c O) hy=>Bcr o m y x O c ho (hm.below hb) hy f8;have f4:∀c,Bl w c->Eb c O (.s a1 b.length a2) b:=fun c h=>f2.kp (Kp.of_below (e:=none) h) Fm Fm Fm Fm Fm;clear hm f2 f1;obtain⟨Q,nm,pa,pl,pc,r1,r2,lo,st,ca,cn,cc,ha,hl,hc,ma,ml,mc⟩:=m;simp only[PM.val]at f c8 c9 d0 ⊢;have f9:=Bc c8;have g0:=Bc c9;have g1:=Bc d0;have g2:=Bc f4;have g3:=Bc f3;have d1:=Em w (O1 c5 c6 c7 a1 b.length a2) (O2 (.p N) T.length a3 ya yn yc) (O18 Q nm pa pl pc r1 r2 lo st ca cn cc ha hl hc ma ml mc);have C0:=Nz w (O1 c5 c6 c7 a1 b.length a2) (O2 (.p N) T.length a3 ya yn yc) (O18 Q nm pa pl pc r1 r2 lo st ca cn cc ha hl hc ma ml mc);clear c8 c9 d0 f4 f3;by_cases I:Q=255;·subst I;rw[Th rfl]at f;have HE:=Bc f;clear f;go_in;go_wp2;go_ret;exact⟨by rw[<- Ba HE];rfl,d1⟩
 rw[Pk I]at f;have h0:(Q==255)=false:=by simpa using I
 have J:Hid (((b.map Prod.fst).drop 0).any (Hu T x)=R):=f;clear f I;go_in;go_wp2
 go_loopw [15] (fun v wr=>∃k:Nat,k<=b.length/\v=.i (k:Int)/\Hid (((b.map Prod.fst).drop k).any (Hu T x)=R)/\Bl w wr/\wr.heap[w.heap.size+1]?=some (O2 (.p N) T.length a3 ya yn yc)/\wr.heap[w.heap.size+1+1]?=some (O18 Q nm pa pl pc r1 r2 lo st ca cn cc ha hl hc ma ml mc))
  (fun v _=>b.length-(intOf v).toNat)
 case atStart=>exact⟨0,Ck,rfl,J,d1,C0.2.1,C0.2.2⟩
 case round=>
  clear J d1 C0;obtain⟨k,hk,rfl,J,hB,V,Y⟩:=hrel;have g4:=hB.size;have lT:=Sp V;have lM:=Sp Y;obtain⟨l,q,t,z,A,B,C,D,F,G⟩:=Nj Y;simp at l q t z A B C D F G;obtain⟨t0,t1⟩:=cl2 V;simp at t0 t1;by_cases d2:k<b.length
  ·obtain⟨o,g,hg,h4,a5,a6⟩:=(Ba g2 _ hB).mth d2;replace a5:=T5 a5;have g5:=Ba g3 _ (Brn d2);have hd:(b.map Prod.fst).drop k=b[k].1::(b.map Prod.fst).drop (k+1):=by
    rw[Brj (by simpa using d2)];simp
   have f:=Ba J;rw[hd,Buj,Ba f9,<- a6.cl,<- a6.nm]at f;generalize b[k].1=y at *;have d3:Bl wr (wr.alloc (O18 o.cl o.nm o.pa o.pl o.pc o.r1 o.r2 o.lo o.st o.ca o.cn o.cc o.ha o.hl o.hc o.ma o.ml o.mc)):=QN _;have f5:∀c,Bl wr c->o.is y c O:=fun c h=>a6.below h;have d4:=fun c (I:Bl w c) (h2:Bl wr c)=>Ba g1 o y c I (f5 c h2) g5;have d5:=fun c (I:Bl w c)=>Ba g0 o.cl c I;clear a6 f5;obtain⟨a4,Z,a7,a8,a9,b0,b1,b2,b3,b4,b5,b6,b7,b8,b9,c0,c1,c2⟩:=o;simp only at a5 f d4 d5 d3;obtain⟨y0,y1,y2,y3,y4,y5,y6,y7,y8,y9⟩:=a5;generalize Le y x=SC at *;generalize Tr.below T Q a4=BL at *;have f6:=Bc d4;have d6:=Bc d5;have kb:(k:Int)<(b.length:Int):=Ck;have K:=hB.alloc g4 (O18 a4 Z a7 a8 a9 b0 b1 b2 b3 b4 b5 b6 b7 b8 b9 c0 c1 c2);have c3:=Bg Y (O18 a4 Z a7 a8 a9 b0 b1 b2 b3 b4 b5 b6 b7 b8 b9 c0 c1 c2);have d7:=Bg V (O18 a4 Z a7 a8 a9 b0 b1 b2 b3 b4 b5 b6 b7 b8 b9 c0 c1 c2);have f7:=Be wr (O18 a4 Z a7 a8 a9 b0 b1 b2 b3 b4 b5 b6 b7 b8 b9 c0 c1 c2);clear hd J d4 d5;subst hg;by_cases h3:Z=nm
   ·subst h3;cases BL with
    | false =>
     have HG:Hid (((b.map Prod.fst).drop (k+1)).any (Hu T x)=R):=by unfold Hid;rw[<- f];simp
     clear f;go_wp2_with fail;refine Qb (Ba d6 _ K) K ?_;intro w2 j L;have a0:=stay j c3;have d8:=stay j d7;clear l q t z A B C D F G t0 t1 y0 y1 y2 y3 y4 y5 y6 y7 y8 y9 Y V;go_wp2;go_roundw
     case rel=>exact⟨k+1,Ck,Mg,HG,L,d8,a0⟩
     case measure=>simp[intOf];omega
    | true =>
     cases SC with
     | false =>
      have HE:Hid (R=true):=by unfold Hid;rw[<- f];simp
      clear f;go_wp2_with fail;refine Qb (Ba d6 _ K) K ?_;intro w2 j L;have d9:=QB d3 j;have a0:=stay j c3;have f0:=stay j f7;clear l q t z A B C D F G t0 t1 y0 y1 y2 y3 y4 y5 y6 y7 y8 y9 Y V;obtain⟨l,q,t,z,A,B,C,D,F,G⟩:=Nj a0;simp at l q t z A B C D F G;obtain⟨o0,o1,o2,o3,o4,o5,o6,o7,o8,o9⟩:=Nj f0;simp at o0 o1 o2 o3 o4 o5 o6 o7 o8 o9;go_wp2_with fail;refine Qm (Ba f6 _ L d9) ?_;intro w3 c4;go_wp2;go_ret;exact⟨by rw[Ba HE];rfl,QB L c4⟩
     | true =>
      have HG:Hid (((b.map Prod.fst).drop (k+1)).any (Hu T x)=R):=by unfold Hid;rw[<- f];simp
      clear f;go_wp2_with fail;refine Qb (Ba d6 _ K) K ?_;intro w2 j L;have d9:=QB d3 j;have a0:=stay j c3;have d8:=stay j d7;have f0:=stay j f7;clear l q t z A B C D F G t0 t1 y0 y1 y2 y3 y4 y5 y6 y7 y8 y9 Y V;obtain⟨l,q,t,z,A,B,C,D,F,G⟩:=Nj a0;simp at l q t z A B C D F G;obtain⟨o0,o1,o2,o3,o4,o5,o6,o7,o8,o9⟩:=Nj f0;simp at o0 o1 o2 o3 o4 o5 o6 o7 o8 o9;go_wp2_with fail;refine Qb (Ba f6 _ L d9) L ?_;intro w3 c4 g6;have g7:=stay c4 a0;have g8:=stay c4 d8;clear l q t z A B C D F G o0 o1 o2 o3 o4 o5 o6 o7 o8 o9;go_wp2;go_roundw
      case rel=>exact⟨k+1,Ck,Mg,HG,g6,g8,g7⟩
      case measure=>simp[intOf];omega
   have HG:Hid (((b.map Prod.fst).drop (k+1)).any (Hu T x)=R):=by unfold Hid;rw[<- f];simp[h3]
   have h5:(Z==nm)=false:=by simpa using h3
   clear f h3;go_wp2;go_roundw
   case rel=>exact⟨k+1,Ck,Mg,HG,K,d7,c3⟩
   case measure=>simp[intOf];omega
  have HE:Hid (R=false):=by unfold Hid;rw[<- Ba J,Brq Fr];rfl
  have kb:¬(k:Int)<(b.length:Int):=Ck;clear J;go_wp2;go_ret;exact⟨by rw[Ba HE];rfl,hB⟩
def Bkg(c:TI):∀x∈Cd.insts c,0<=x.place:=by
 intro x b;unfold Cd.insts at b;simp only[List.mem_map]at b;obtain⟨p,_,rfl⟩:=b;exact Int.natCast_nonneg p
def Bgq(c:TI)(k p:Nat):(Cd.starts c k p).length<=k:=by
 induction k generalizing p with
 | zero=>simp[Cd.starts]
 | succ j ih =>
  unfold Cd.starts
  split
  ·simp;exact ih _
  simp
def Bbd(c:TI):(Cd.insts c).length<=c.length:=by
 unfold Cd.insts Cd.places;rw[Br1];exact Bgq _ _ _
def Bhr(Z b0:TA)(b1 b2 tg tc:Nat)(ya:TA)(yn yc:Nat)(cl nm:Int)(pa:TA)(pl pc:Nat)(r1 r2 st:Int)(J K ma:TA)(N l mc:Nat)(T:TI) (bm:Nat)(q:List (Rd.Cls×Value))(t:List (Rd.Mth×Ex))(m:Rd.Mth)(B:List (Rd.Mp×Value×Value))(w:TW) (hT:T.length<=1000)(c8:Dy w tg T)(i1:t.length<=6)(h1:q.length<=6)(d6:∀p∈q,p.1.fields.length<=1000) (d7:Fh w bm (.s Z q.length b1) q)(d8:Eb w bm (.s b0 t.length b2) t)(c0:Rz m)(d3:B.map Prod.fst=m.maps) (d9:De w bm (.s J m.code.length N) m.code)(f0:K8 w bm (.s K m.handlers.length l) m.handlers)(f1:Mf w bm (.s ma B.length mc) B):Calls prog 162 #[PBd.val ⟨Z,q.length,b1,b0,t.length,b2,tg,tc,ya,yn,yc,cl,nm,pa,pl,pc,r1,r2,m.locals,st,J,m.code.length,N,K,m.handlers.length,l,ma,B.length,mc,none,0,T,[]⟩] w fun e f => e=.r (.agg #[.i (Mt T (Cd.fieldSum (q.map Prod.fst):Int) (t.map fun p=>p.1.cl) m).1,.i 0,.i (Mt T (Cd.fieldSum (q.map Prod.fst):Int) (t.map fun p=>p.1.cl) m).2])/\Bl w f:=by
 have i2:B.length<=64:=by have:=congrArg List.length d3;simp only[Br1]at this;rw[this];exact c0.mp
 have f2:∀p∈B,p.1.locals.length<=1000/\p.1.stack.length<=1000/\-1000<=p.1.place/\p.1.place<=1000:=by
  intro p hp;have:=c0.fr p.1 (by rw[<- d3];exact Bsc hp);omega
 have i3:=c0.code;have i4:=c0.hs;have c9:=fun f (h:Bl w f)=>Bbr m.code J N bm f Ck c0.code0 (d9.kp (Kp.of_below (e:=none) h) Fm);generalize hL:Cd.insts m.code=L;have i5:L.length<=120:=by rw[<- hL];have:=Bbd m.code;omega
 have f3:∀x∈L,0<=x.place:=by rw[<- hL];exact Bkg _
 have hI:=fun c vc bb p op n f (h:Bl w f) (hi:Jz f bb (.s c L.length vc) L) =>
  Bkh ⟨Z,q.length,b1,b0,t.length,b2,tg,tc,ya,yn,yc,cl,nm,pa,pl,pc,r1,r2,m.locals,st,J,m.code.length,N,K,m.handlers.length,l,ma,B.length,mc,c,vc,T,L⟩ bb bm q t p op n f ⟨hT,Mc,c8.below h,hi⟩ rfl rfl Ck h1 d6 (d7.kp (Kp.of_below (e:=none) h) Fm Fm) (d8.kp (Kp.of_below (e:=none) h) Fm Fm Fm Fm Fm)
 have hH:=fun c vc bb x f (h:Bl w f) (hi:Jz f bb (.s c L.length vc) L)=>Bhs ⟨Z,q.length,b1,b0,t.length,b2,tg,tc,ya,yn,yc,cl,nm,pa,pl,pc,r1,r2,m.locals,st,J,m.code.length,N,K,m.handlers.length,l,ma,B.length,mc,c,vc,T,L⟩ bb x f ⟨hT,Mc,c8.below h,hi⟩;have hM:=fun c vc bb f (h:Bl w f) (hi:Jz f bb (.s c L.length vc) L) =>
  Bhq ⟨Z,q.length,b1,b0,t.length,b2,tg,tc,ya,yn,yc,cl,nm,pa,pl,pc,r1,r2,m.locals,st,J,m.code.length,N,K,m.handlers.length,l,ma,B.length,mc,c,vc,T,L⟩ bb bm B f ⟨hT,Mc,c8.below h,hi⟩ rfl Ck f2 (f1.kp (Kp.of_below (e:=none) h) Fm Fm)
 have f4:∀f,Bl w f->K8 f bm (.s K m.handlers.length l) m.handlers:=fun f h=>f0.kp (Kp.of_below (e:=none) h) Fm;unfold Cd.readL Cd.readP Cd.readB at c9;unfold Mt;rw[hL]at c9 ⊢;rw[d3]at hM;simp only[PBd.val]at hI hH hM ⊢;generalize (Cd.fieldSum (q.map Prod.fst):Int)=nf at *;generalize (t.map fun p=>p.1.cl)=ow at *;have f5:∀x,Lp T nf ow m.locals L x = !Cd.argP T nf ow m.locals L x.op x.n:=fun x=>rfl;have f6:∀x,N3 T L (m.code.length:Int) x = !Cd.hndMay T L (m.code.length:Int) x:=fun x=>rfl;generalize f7:Ju (Lp T nf ow m.locals L) L=q1;generalize f8:Cd.firstIx (N3 T L (m.code.length:Int)) 0 m.handlers=G;generalize h2:Cd.faultOf (Cd.inMaps T L 0 0 m.maps)=q3 at *;have f9:Hid (Ju (Lp T nf ow m.locals L) (L.drop 0)=q1):=f7;have g0:Hid (Cd.firstIx (N3 T L (m.code.length:Int)) 0 (m.handlers.drop 0)=G):=f8;have HI:=Bc hI;have HH:=Bc hH;have HM:=Bc hM;have d0:=Bc c9;have h3:=Bc f4;have h4:=Bc f5;have h5:=Bc f6;have h6:=Bc f3;have c5:=Bu w (O16 Z q.length b1 b0 t.length b2 (.p tg) T.length tc ya yn yc cl nm pa pl pc r1 r2 m.locals st J m.code.length N K m.handlers.length l ma B.length mc none 0 0) (O8 0 0 0);have g1:=Cb w (O16 Z q.length b1 b0 t.length b2 (.p tg) T.length tc ya yn yc cl nm pa pl pc r1 r2 m.locals st J m.code.length N K m.handlers.length l ma B.length mc none 0 0) (O8 0 0 0);have d4:=Bx w (O16 Z q.length b1 b0 t.length b2 (.p tg) T.length tc ya yn yc cl nm pa pl pc r1 r2 m.locals st J m.code.length N K m.handlers.length l ma B.length mc none 0 0) (O8 0 0 0);clear f7 f8 h2 hI hH hM c9 f4 f5 f6 f3 c8 d7 d8 d9 f0 f1 f2 c0 d6 hL;by_cases hu:0<=Cd.unread m.code;·rw[Th hu];have b6:=Ba d0 _ c5;rw[Th hu,Th hu,show decide (Cd.unread m.code<0)=false by simp;omega]at b6;generalize Cd.unread m.code=u at *;have d1:=Bc b6;clear b6 d0;go_in;go_wp2_with fail;refine(Ba d1).mono ?_;rintro e w1 ⟨c,vc,rfl,_,b7⟩;have D:=QB c5 b7;have I:=stay b7 d4;obtain⟨q0,q1,G⟩:=fr3 I;obtain⟨z0,z1,z2⟩:=cl3 I;simp at z0 z1 z2;go_wp2_with fail;refine tb (.agg #[.i 5,.i 0,.i u]) (by simp[results,Bve,go_sem,z0,z1,z2]) ?_;exact⟨rfl,((D.setCell Hd _).setCell Hd _).setCell Hd _⟩
 rw[Pk hu];have b6:=Ba d0 _ c5;rw[Pk hu,Pk hu,show decide (Cd.unread m.code<0)=true by simp;omega]at b6;have d1:=Bc b6;clear b6 d0 hu;generalize hF:(if 0<=q1 then ((5:Int),q1) else if 0<=G then (6,G) else q3)=Fa
 have HF:=Bc hF;clear hF;go_in;go_wp2_with fail;refine(Ba d1).mono ?_;rintro e w1 ⟨c,vc,rfl,O,b7⟩;have D:=QB c5 b7;have I:=stay b7 d4;have Q:=stay b7 g1;have lB:=Sp Q;have h7:=Bk Q 14;obtain⟨a0,a1,a2,a3,a4,a5,a6,a7,a8,a9,g2,g3,g4,g5,g6⟩:=Tk Q;simp at a0 a1 a2 a3 a4 a5 a6 a7 a8 a9 g2 g3 g4 g5 g6;have b8:(w1.setCell (.a w.heap.size 14) (.s c L.length vc)).heap[w.heap.size]?=some (O16 Z q.length b1 b0 t.length b2 (.p tg) T.length tc ya yn yc cl nm pa pl pc r1 r2 m.locals st J m.code.length N K m.handlers.length l ma B.length mc c L.length vc):=by rw[Bt Q];rfl
 have C:(w1.setCell (.a w.heap.size 14) (.s c L.length vc)).heap[w.heap.size+1]?=some (O8 0 0 0):=by
  rw[Brk _ _ _ _ Hd];exact I
 have V:=D.setCell (p:=.a w.heap.size 14) Hd (.s c L.length vc);have g7:Jz (w1.setCell (.a w.heap.size 14) (.s c L.length vc)) (w.heap.size+1+1) (.s c L.length vc) L :=
  Jz.kp (by simpa using O) (Kp.set (b:=w.heap.size+1+1) (i:=14) Q (.s c L.length vc)) Fm
 clear O d1 c5 g1 d4;have b4:=Bb b8 14;simp at b4;go_wp2
 go_loopw [27] (fun v wr=>∃k:Nat,k<=L.length/\v=.i (k:Int)/\Hid (Ju (Lp T nf ow m.locals L) (L.drop k)=q1)/\Bl w wr /\
   wr.heap[w.heap.size]?=some (O16 Z q.length b1 b0 t.length b2 (.p tg) T.length tc ya yn yc cl nm pa pl pc r1 r2 m.locals st J m.code.length N K m.handlers.length l ma B.length mc c L.length vc)/\wr.heap[w.heap.size+1]?=some (O8 0 0 0)/\Jz wr (w.heap.size+1+1) (.s c L.length vc) L)
  (fun v _=>L.length-(intOf v).toNat)
 case atStart=>exact⟨0,Ck,rfl,f9,V,b8,C,g7⟩
 case round=>
  clear f9 V b8 C g7 Q I D b7 b4 a0 a1 a2 a3 a4 a5 a6 a7 a8 a9 g2 g3 g4 g5 g6 h7;obtain⟨k,hk,rfl,HQ,Y,CB,CR,O⟩:=hrel;have c6:=Y.size;have lB:=Sp CB;have lR:=Sp CR;obtain⟨m0,m1,m2,m3,m4,m5,m6,m7,m8,m9,c1,c2,c3,c4,b4⟩:=Tk CB;simp at m0 m1 m2 m3 m4 m5 m6 m7 m8 m9 c1 c2 c3 c4 b4;by_cases F:k<L.length
  ·obtain⟨g,hg,h8,_,b3⟩:=Cf O Ck;obtain⟨e1,e2,e3,e4⟩:=Wu L k F;have y0:=(b3 (k*3) Ck).trans e1;have y1:=(b3 (k*3+1) Ck).trans e2;have y2:=(b3 (k*3+2) Ck).trans e3;have hd:L.drop k=L[k]::L.drop (k+1):=Brj F;have hq:=Ba HQ;rw[hd,Ju,Ba h4]at hq;have g8:=Ba h6 _ (Brn F);generalize L[k]=x at *;obtain⟨xp,xo,xn⟩:=x;simp only at y0 y1 y2 hq g8;have D:=Y.alloc c6 (O15 xp xo xn);have c7:Bl wr (wr.alloc (O15 xp xo xn)):=QN _;have b9:=O.kp (Kp.of_below (e:=none) c7) Fm;have l:=Ba HI c vc _ xp xo xn _ D b9;generalize Cd.argP T nf ow m.locals L xo xn=A at *;have HC:=Bc l;have b5:=Bc hq;have g9:=Be wr (O15 xp xo xn);have Q:=Bg CB (O15 xp xo xn);have I:=Bg CR (O15 xp xo xn);have kb:(k:Int)<(L.length:Int):=Ck;clear l hq hd b3 e1 e2 e3 e4 HQ c7;subst hg;cases A with
   | false =>
    have HE:Hid (Fa=(5,xp)):=by
     unfold Hid;have e:q1=xp:=by rw[<- Ba b5];simp
     rw[<- Ba HF,e,Th g8]
    clear b5;go_wp2_with fail;refine Qb (Ba HC) D ?_;intro w2 z V;have C:=stay z I;have h9:=stay z g9;have x0:=Bb h9 0;obtain⟨q0,q1,G⟩:=fr3 C;obtain⟨z0,z1,z2⟩:=cl3 C;simp at z0 z1 z2 x0;go_wp2_with fail;refine tb (.agg #[.i 5,.i 0,.i xp]) (by simp[results,Bve,go_sem,z0,z1,z2]) ?_;rw[Ba HE];exact⟨rfl,((V.setCell Hd _).setCell Hd _).setCell Hd _⟩
   | true =>
    have HG:Hid (Ju (Lp T nf ow m.locals L) (L.drop (k+1))=q1):=by unfold Hid;rw[<- Ba b5];simp
    clear b5;go_wp2_with fail;refine Qb (Ba HC) D ?_;intro w2 z V;have b8:=stay z Q;have C:=stay z I;have d5:=b9.kp (Kp.of_below (e:=none) z) Fm;clear z D Q I g9 Y CB CR m0 m1 m2 m3 m4 m5 m6 m7 m8 m9 c1 c2 c3 c4 b4 y0 y1 y2 b9 O;go_wp2;go_roundw
    case rel=>exact⟨k+1,Ck,Mg,HG,V,b8,C,d5⟩
    case measure=>simp[intOf];omega
  have h0:Hid ((if 0<=G then ((6:Int),G) else q3)=Fa):=by
   unfold Hid;have e:q1 = -1:=by rw[<- Ba HQ,Brq Ck];rfl
   rw[<- Ba HF,e];exact(Pk Ck).symm
  have kb:¬(k:Int)<(L.length:Int):=Ck;clear HQ HF;go_wp2
  go_loopw [43] (fun v d2=>∃k:Nat,k<=m.handlers.length/\v=.i (k:Int)/\Hid (Cd.firstIx (N3 T L (m.code.length:Int)) k (m.handlers.drop k)=G)/\Bl w d2 /\
    d2.heap[w.heap.size]?=some (O16 Z q.length b1 b0 t.length b2 (.p tg) T.length tc ya yn yc cl nm pa pl pc r1 r2 m.locals st J m.code.length N K m.handlers.length l ma B.length mc c L.length vc)/\d2.heap[w.heap.size+1]?=some (O8 0 0 0)/\Jz d2 (w.heap.size+1+1) (.s c L.length vc) L)
   (fun v _=>m.handlers.length-(intOf v).toNat)
  case atStart=>exact⟨0,Ck,rfl,g0,Y,CB,CR,O⟩
  case round=>
   clear g0 Y CB CR O m0 m1 m2 m3 m4 m5 m6 m7 m8 m9 c1 c2 c3 c4 b4 kb hk F lB lR c6;obtain⟨j,hk,rfl,HQ,Y,CB,CR,O⟩:=hrel;have c6:=Y.size;have lB:=Sp CB;have lR:=Sp CR;obtain⟨m0,m1,m2,m3,m4,m5,m6,m7,m8,m9,c1,c2,c3,c4,b4⟩:=Tk CB;simp at m0 m1 m2 m3 m4 m5 m6 m7 m8 m9 c1 c2 c3 c4 b4;by_cases F:j<m.handlers.length
   ·obtain⟨g,hg,h8,_,b3⟩:=Cf (Ba h3 _ Y) Ck;have y0:=(b3 _ (Db m.handlers j F 0 Ck).2).trans (Db m.handlers j F 0 Ck).1;have y1:=(b3 _ (Db m.handlers j F 1 Ck).2).trans (Db m.handlers j F 1 Ck).1;have y2:=(b3 _ (Db m.handlers j F 2 Ck).2).trans (Db m.handlers j F 2 Ck).1;have y3:=(b3 _ (Db m.handlers j F 3 Ck).2).trans (Db m.handlers j F 3 Ck).1;have hd:m.handlers.drop j=m.handlers[j]::m.handlers.drop (j+1):=Brj F;have hq:=Ba HQ;rw[hd,Cd.firstIx,Ba h5]at hq;generalize m.handlers[j]=x at *;obtain⟨x1,x2,x3,x4⟩:=x;simp at y0 y1 y2 y3;have D:=Y.alloc c6 (O19 x1 x2 x3 x4);have c7:Bl wr (wr.alloc (O19 x1 x2 x3 x4)):=QN _;have b9:=O.kp (Kp.of_below (e:=none) c7) Fm;have l:=Ba HH c vc _ ⟨x1,x2,x3,x4⟩ _ D b9;simp only at l;generalize Cd.hndMay T L (m.code.length:Int) ⟨x1,x2,x3,x4⟩=A at *;have HC:=Bc l;have b5:=Bc hq;have Q:=Bg CB (O19 x1 x2 x3 x4);have I:=Bg CR (O19 x1 x2 x3 x4);have kb:(j:Int)<(m.handlers.length:Int):=Ck;clear l hq hd b3 HQ c7;subst hg;cases A with
    | false =>
     have HE:Hid (Fa=(6,(j:Int))):=by
      unfold Hid;have e:G=(j:Int):=by rw[<- Ba b5];simp
      rw[<- Ba h0,e,Th Ck]
     clear b5;go_wp2_with fail;refine Qb (Ba HC) D ?_;intro w2 z V;have C:=stay z I;obtain⟨q0,q1,G⟩:=fr3 C;obtain⟨z0,z1,z2⟩:=cl3 C;simp at z0 z1 z2;go_wp2_with fail;refine tb (.agg #[.i 6,.i 0,.i (j:Int)]) (by simp[results,Bve,go_sem,z0,z1,z2]) ?_;rw[Ba HE];exact⟨rfl,((V.setCell Hd _).setCell Hd _).setCell Hd _⟩
    | true =>
     have HG:Hid (Cd.firstIx (N3 T L (m.code.length:Int)) (j+1) (m.handlers.drop (j+1))=G):=by unfold Hid;rw[<- Ba b5];simp
     clear b5;go_wp2_with fail;refine Qb (Ba HC) D ?_;intro w2 z V;have b8:=stay z Q;have C:=stay z I;have d5:=b9.kp (Kp.of_below (e:=none) z) Fm;clear z D Q I Y CB CR m0 m1 m2 m3 m4 m5 m6 m7 m8 m9 c1 c2 c3 c4 b4 y0 y1 y2 y3 b9 O;go_wp2;go_roundw
     case rel=>exact⟨j+1,Ck,Mg,HG,V,b8,C,d5⟩
     case measure=>simp[intOf];omega
   have HE:Hid (q3=Fa):=by
    unfold Hid;have e:G = -1:=by rw[<- Ba HQ,Brq Ck];rfl
    rw[<- Ba h0,e,Pk Ck]
   have kb:¬(j:Int)<(m.handlers.length:Int):=Ck;have hm:=Ba HM c vc _ _ Y O;have i0:=Bc hm;clear hm HQ;go_wp2_with fail;refine Qm (Ba i0) ?_;intro w2 z;have V:=Y.trans (z.mono c6);have C:=stay z CR;obtain⟨q0,q1,G⟩:=fr3 C;obtain⟨z0,z1,z2⟩:=cl3 C;simp at z0 z1 z2;go_wp2_with fail;refine tb (.agg #[.i q3.1,.i 0,.i q3.2]) (by simp[results,Bve,go_sem,z0,z1,z2]) ?_;rw[Ba HE];exact⟨rfl,((V.setCell Hd _).setCell Hd _).setCell Hd _⟩
variable {ya:Option Addr}{yn yc:Nat}
theorem tq{ops:Array Oper}{md:Region.Mode}{Q:Exit→Act→World→Prop}{S:World→Prop}{fuel:Nat}{listed:Array Bool}{a:Act}{w:World}(i:Nat)(v:Value){d:Option Tmp}{op:Op}{ty:TypeId}{ps:String}{af:Array Edge}{gd:Option (Nat × Bool)}{Z:Prop}(hS:S w)(h:Z)(hi:ops[i]?=some ⟨d,op,ty,ps,af,gd⟩:=by rfl)(hs:Region.noSelect ops=true:=by kernel_rfl)(hf:Region.free md ops listed i=true:=by kernel_rfl)(hr:(Region.ready md ops listed).contains i=true:=by kernel_rfl)(hQ:∀ c a w,Q (.panic c) (a.put d v) w→Q (.panic c) a w:=by exact fun _ _ _ h=>h)(hw:Region.wanted ⟨d,op,ty,ps,af,gd⟩ (yielded ops a.tmps)=true:=by rfl)(hy:∀ w,S w→(execOp a.eval ⟨d,op,ty,ps,af,gd⟩).run Tryz.prog w=.ok (.value v) w:=by intro w' hSw;(try dsimp only at hSw);go_simp)(hn:Z→wpAnyH Tryz.prog md ops Q S fuel (listed.setIfInBounds i true) (a.put d v) w:=by intro q;(try simp only[QX]);exact q):wpAnyH Tryz.prog md ops Q S (fuel+1) listed a w:=wpAnyH_take hi hs hf hr hQ (Or.inl ⟨hw,hy⟩) hS (hn h)
theorem tn{ops:Array Oper}{md:Region.Mode}{Q:Exit→Act→World→Prop}{S:World→Prop}{fuel:Nat}{listed:Array Bool}{a:Act}{w:World}(i:Nat)(v:Value){d:Option Tmp}{op:Op}{ty:TypeId}{ps:String}{af:Array Edge}{gd:Option (Nat × Bool)}{Z:Prop}(hS:S w)(h:Z)(hi:ops[i]?=some ⟨d,op,ty,ps,af,gd⟩:=by rfl)(hs:Region.noSelect ops=true:=by kernel_rfl)(hf:Region.free md ops listed i=true:=by kernel_rfl)(hr:(Region.ready md ops listed).contains i=true:=by kernel_rfl)(hQ:∀ c a w,Q (.panic c) (a.put d v) w→Q (.panic c) a w:=by exact fun _ _ _ h=>h)(hw:Region.wanted ⟨d,op,ty,ps,af,gd⟩ (yielded ops a.tmps)=false:=by rfl)(hv:v=undef:=by rfl)(hn:Z→wpAnyH Tryz.prog md ops Q S fuel (listed.setIfInBounds i true) (a.put d v) w:=by intro q;(try simp only[QX]);exact q):wpAnyH Tryz.prog md ops Q S (fuel+1) listed a w:=wpAnyH_take hi hs hf hr hQ (Or.inr ⟨hw,hv⟩) hS (hn h)
theorem tl{ops:Array Oper}{md:Region.Mode}{Q:Exit→Act→World→Prop}{S:World→Prop}{fuel:Nat}{listed:Array Bool}{a:Act}{w:World}(i:Nat)(v:Value){d:Option Tmp}{op:Op}{ty:TypeId}{ps:String}{af:Array Edge}{gd:Option (Nat × Bool)}(hy:∀ w,S w→(execOp a.eval ⟨d,op,ty,ps,af,gd⟩).run Tryz.prog w=.ok (.value v) w)(hS:S w)(h:wpAnyH Tryz.prog md ops Q S fuel (listed.setIfInBounds i true) (a.put d v) w)(hi:ops[i]?=some ⟨d,op,ty,ps,af,gd⟩:=by rfl)(hs:Region.noSelect ops=true:=by kernel_rfl)(hf:Region.free md ops listed i=true:=by kernel_rfl)(hr:(Region.ready md ops listed).contains i=true:=by kernel_rfl)(hQ:∀ c a w,Q (.panic c) (a.put d v) w→Q (.panic c) a w:=by exact fun _ _ _ h=>h)(hw:Region.wanted ⟨d,op,ty,ps,af,gd⟩ (yielded ops a.tmps)=true:=by rfl):wpAnyH Tryz.prog md ops Q S (fuel+1) listed a w:=wpAnyH_take hi hs hf hr hQ (Or.inl ⟨hw,hy⟩) hS h
theorem tr{ops:Array Oper}{md:Region.Mode}{Q:Exit→Act→World→Prop}{S:World→Prop}{fuel:Nat}{listed:Array Bool}{a:Act}{w:World}(i:Nat){d:Option Tmp}{op:Op}{ty:TypeId}{ps:String}{af:Array Edge}{gd:Option (Nat × Bool)}(h:∀ K:Act→World→Prop,Shut (∀ a w,S w→(S w→wpAnyH Tryz.prog md ops Q S fuel (listed.setIfInBounds i true) a w)→K a w)→if Region.wanted (⟨d,op,ty,ps,af,gd⟩:Oper) (yielded ops a.tmps)=true then Oper.wp Tryz.prog (⟨d,op,ty,ps,af,gd⟩:Oper) a w K Q else K (a.put (⟨d,op,ty,ps,af,gd⟩:Oper).dst undef) w)(ho:ops[i]?=some ⟨d,op,ty,ps,af,gd⟩:=by rfl)(hr:Region.ready md ops listed=[i]:=by kernel_rfl):wpAnyH Tryz.prog md ops Q S (fuel+1) listed a w:=wpAnyH_ready hr (by simp) (AllReadyH.cons ho h AllReadyH.nil)
def Boo{u b n:Nat}{j:TypeId}{a:TA}{O c:Nat}{e:TV}{w:TW}(h:w.ownsRow u j b (.s a O c) n e):n<=c:=by
 obtain⟨_,⟨i,l⟩|⟨g,p,q,f,t,v,z,_⟩⟩:=h
 ·omega
 simp only[Value.slice.injEq]at f;omega
def Vc (q:Int):Int × Int:=if 0<=q then (4,q) else (0,0)
def V6{c:Int}(h:0<=c):Vc c=(4,c):=Th h
def Bfb(a5 a6:TA)(a7 a8 a1:Nat)(m:List (Rd.Mth×Ex))(T:TI)(tg a4 bm:Nat)(w:TW)(hT:T.length<=1000)(c9:Dy w tg T) (d0:m.length<=6)(d1:Eb w bm (.s a6 m.length a1) m)(c4:∀p∈m,p.1.params.length<=1000):Calls prog 106 #[.agg #[.s a5 a7 a8,.s a6 m.length a1],.agg #[.s (.p tg) T.length a4,.s ya yn yc]] w fun e w' => e=.r (.agg #[.i (Vc (Iu T (m.map Prod.fst) 0 (m.map Prod.fst))).1,.i (Vc (Iu T (m.map Prod.fst) 0 (m.map Prod.fst))).2,.i 0])/\Bl w w':=by
 generalize hq:Iu T (m.map Prod.fst) 0 (m.map Prod.fst)=q;have HQ:Hid (Iu T (m.map Prod.fst) 0 ((m.map Prod.fst).drop 0)=q):=hq;clear hq;have c5:=Em w (O1 a5 a7 a8 a6 m.length a1) (O2 (.p tg) T.length a4 ya yn yc) (O8 0 0 0);have C0:=Nz w (O1 a5 a7 a8 a6 m.length a1) (O2 (.p tg) T.length a4 ya yn yc) (O8 0 0 0);go_in;go_wp2
 go_loopw [10] (fun v wr=>∃k:Nat,k<=m.length/\v=.i (k:Int)/\Hid (Iu T (m.map Prod.fst) k ((m.map Prod.fst).drop k)=q)/\Bl w wr/\wr.heap[w.heap.size]?=some (O1 a5 a7 a8 a6 m.length a1) /\
   wr.heap[w.heap.size+1]?=some (O2 (.p tg) T.length a4 ya yn yc)/\wr.heap[w.heap.size+1+1]?=some (O8 0 0 0))
  (fun v _=>m.length-(intOf v).toNat)
 case atStart=>exact⟨0,Ck,rfl,HQ,c5,C0.1,C0.2.1,C0.2.2⟩
 case round=>
  clear HQ c5 C0;obtain⟨k,hk,rfl,HQ,hB,CF,CT,CR⟩:=hrel;have b2:=hB.size;by_cases b9:k<m.length
  ·have b3:Eb wr bm (.s a6 m.length a1) m:=d1.kp (Kp.of_below (e:=none) hB) Fm Fm Fm Fm Fm;have kc:=Boo b3.1;obtain⟨o,g,hg,f3,b5,b4⟩:=b3.mth b9;replace b5:=T5 b5;have c6:=c4 _ (Brn b9);have hd:(m.map Prod.fst).drop k=m[k].1::(m.map Prod.fst).drop (k+1):=by
    rw[Brj (by simpa using b9)];simp
   have hr:=Ba HQ;rw[hd,Iu]at hr;unfold Sl at hr;have c0:=fun w' (h:Bl wr w')=>Bfd (ya:=ya) (yn:=yn) (yc:=yc) T (.p tg) a4 bm o m[k].1 w' (b4.below h) c6;have c1:=fun w' (h:Bl wr w')=>Bad (ya:=ya) (yn:=yn) (yc:=yc) a5 a6 a7 a8 a1 m T tg a4 bm o m[k].1 w' (b4.below h) hT (c9.below (hB.trans (h.mono b2))) d0 (b3.kp (Kp.of_below (e:=none) h) Fm Fm Fm Fm Fm) c6 c4;have c7:((m.map Prod.fst).take k).length=k:=Fr;have b6:=fun w' (h:Bl wr w')=>Bhp ((m.map Prod.fst).take k) a6 a1 o m[k].1 w' b4.cl b4.nm Ck (by
    intro f4 d2 j hj;have d3:j<m.length:=Ck;have d4:=h.trans (d2.mono h.size);obtain⟨o',g',d5,d6,d7,c8⟩:=(b3.kp (Kp.of_below (e:=none) d4) Fm Fm Fm Fm Fm).mth d3;refine⟨o',g',d5,d6,d7,?_,?_⟩
    ·rw[c8.cl];simp
    rw[c8.nm];simp)
   rw[c7]at b6;clear b4 b3 hd c7;generalize N2 T m[k].1=A at *;generalize Ox ((m.map Prod.fst).take k) m[k].1=B at *;generalize Ku T (m.map Prod.fst) m[k].1=C at *;obtain⟨t,z,D,F,G,I,J,L,N,O,cn,Q,V,Y,Z,ma,ml,mc⟩:=o;simp only[PM.val]at b5 c0 b6 c1;obtain⟨y0,y1,y2,y3,y4,y5,y6,y7,y8,y9⟩:=b5;subst hg;have d8:=Bc c0;have d9:=Bc b6;have f2:=Bc c1;clear c0 b6 c1 HQ;have b0:Bl wr (wr.alloc (O18 t z D F G I J L N O cn Q V Y Z ma ml mc)):=QN _;have a3:=Be wr (O18 t z D F G I J L N O cn Q V Y Z ma ml mc);have c2:=Bg CF (O18 t z D F G I J L N O cn Q V Y Z ma ml mc);have c3:=Bg CT (O18 t z D F G I J L N O cn Q V Y Z ma ml mc);have f0:(wr.alloc (O18 t z D F G I J L N O cn Q V Y Z ma ml mc)).C w.heap.size 0 (.s a5 a7 a8):=(Bb c2 0).trans rfl;have f1:(wr.alloc (O18 t z D F G I J L N O cn Q V Y Z ma ml mc)).C w.heap.size 1 (.s (.p g) m.length a1):=(Bb c2 1).trans rfl;have t0:(wr.alloc (O18 t z D F G I J L N O cn Q V Y Z ma ml mc)).C (w.heap.size+1) 0 (.s (.p tg) T.length a4):=(Bb c3 0).trans rfl;have t1:(wr.alloc (O18 t z D F G I J L N O cn Q V Y Z ma ml mc)).C (w.heap.size+1) 1 (.s ya yn yc):=(Bb c3 1).trans rfl;have m0:(wr.alloc (O18 t z D F G I J L N O cn Q V Y Z ma ml mc)).C wr.heap.size 0 (.i t):=(Bb a3 0).trans rfl;have m1:(wr.alloc (O18 t z D F G I J L N O cn Q V Y Z ma ml mc)).C wr.heap.size 1 (.i z):=(Bb a3 1).trans rfl;have m2:(wr.alloc (O18 t z D F G I J L N O cn Q V Y Z ma ml mc)).C wr.heap.size 2 (.s D F G):=(Bb a3 2).trans rfl;have m3:(wr.alloc (O18 t z D F G I J L N O cn Q V Y Z ma ml mc)).C wr.heap.size 3 (.i I):=(Bb a3 3).trans rfl;have m4:(wr.alloc (O18 t z D F G I J L N O cn Q V Y Z ma ml mc)).C wr.heap.size 4 (.i J):=(Bb a3 4).trans rfl;have m5:(wr.alloc (O18 t z D F G I J L N O cn Q V Y Z ma ml mc)).C wr.heap.size 5 (.i L):=(Bb a3 5).trans rfl;have m6:(wr.alloc (O18 t z D F G I J L N O cn Q V Y Z ma ml mc)).C wr.heap.size 6 (.i N):=(Bb a3 6).trans rfl;have m7:(wr.alloc (O18 t z D F G I J L N O cn Q V Y Z ma ml mc)).C wr.heap.size 7 (.s O cn Q):=(Bb a3 7).trans rfl;have m8:(wr.alloc (O18 t z D F G I J L N O cn Q V Y Z ma ml mc)).C wr.heap.size 8 (.s V Y Z):=(Bb a3 8).trans rfl;have m9:(wr.alloc (O18 t z D F G I J L N O cn Q V Y Z ma ml mc)).C wr.heap.size 9 (.s ma ml mc):=(Bb a3 9).trans rfl;have lF:w.heap.size<(wr.alloc (O18 t z D F G I J L N O cn Q V Y Z ma ml mc)).heap.size:=Sp c2;have lT:w.heap.size+1<(wr.alloc (O18 t z D F G I J L N O cn Q V Y Z ma ml mc)).heap.size:=Sp c3;have c:wr.heap.size<(wr.alloc (O18 t z D F G I J L N O cn Q V Y Z ma ml mc)).heap.size:=Sp a3;have kb:(k:Int)<(m.length:Int):=Ck;have f5:(k:Int)<=(a1:Int):=Ck;have x0:=Bb CF 1;simp at x0;have a9:=Bc (fun (_:Unit)=>hr);clear hr;go_wp2;refine Br4 (S:=(fun w'=>w'.C w.heap.size 0 (.s a5 a7 a8)/\w'.C w.heap.size 1 (.s (.p g) m.length a1)/\w'.C (w.heap.size+1) 0 (.s (.p tg) T.length a4)/\w'.C (w.heap.size+1) 1 (.s ya yn yc)/\w'.C wr.heap.size 0 (.i t)/\w'.C wr.heap.size 1 (.i z)/\w'.C wr.heap.size 2 (.s D F G)/\w'.C wr.heap.size 3 (.i I)/\w'.C wr.heap.size 4 (.i J)/\w'.C wr.heap.size 5 (.i L)/\w'.C wr.heap.size 6 (.i N)/\w'.C wr.heap.size 7 (.s O cn Q)/\w'.C wr.heap.size 8 (.s V Y Z)/\w'.C wr.heap.size 9 (.s ma ml mc))) Lt ⟨f0,f1,t0,t1,m0,m1,m2,m3,m4,m5,m6,m7,m8,m9⟩ (fun l=>?_);refine tq 0 (.agg #[.s (.p tg) T.length a4,.s ya yn yc]) l ?_;refine tq 1 (.agg #[.i t,.i z,.s D F G,.i I,.i J,.i L,.i N,.s O cn Q,.s V Y Z,.s ma ml mc]) l ?_;refine tr 2 fun K hK=>?_;go_simp;refine Qm (Ba d8 _ b0.drew) ?_;intro w7 b
   try dsimp only
   clear l;refine hK.out _ _ ⟨QC b lF f0,QC b lF f1,QC b lT t0,QC b lT t1,QC b c m0,QC b c m1,QC b c m2,QC b c m3,QC b c m4,QC b c m5,QC b c m6,QC b c m7,QC b c m8,QC b c m9⟩ (fun l=>?_);clear hK K
   try simp only[QX]
   cases A with
   | false =>
    refine tq 3 (.bool true) l ?_;refine tq 4 (.bool true) l ?_;refine tn 5 undef l ?_;refine tn 6 undef l ?_;refine tn 7 undef l ?_;refine tn 8 undef l ?_;refine tn 9 undef l ?_;refine tn 10 undef l ?_;refine tq 11 (.bool true) l ?_;refine tq 12 (.bool true) l ?_;refine tn 13 undef l ?_;refine tn 14 undef l ?_;refine tn 15 undef l ?_;refine tn 16 undef l ?_;refine tq 17 (.bool true) l ?_;refine Bsg Lt ?_ _;have hX:=(b0.drew).trans (b.mono (Bsx c));have b1:=hB.trans (hX.mono b2);have b7:=stay hX CF;have b8:=stay hX CT;have a2:=stay hX CR;clear l f0 f1 t0 t1 m0 m1 m2 m3 m4 m5 m6 m7 m8 m9;have hr:=Ba a9 ();clear a9;have HE:Hid (q=(k:Int)):=by unfold Hid;rw[<- hr];simp
    clear hr;obtain⟨z0,z1,z2⟩:=cl3 a2;obtain⟨q0,q1,q2⟩:=fr3 a2;have lR:=Sp a2;simp at z0 z1 z2;go_wp2_with fail;refine tb (.agg #[.i 4,.i (k:Int),.i 0]) (by simp[results,Bvf,go_sem,z0,z1,z2]) ?_;rw[Ba HE,V6 Ck];exact⟨rfl,((b1.setCell Fr _).setCell Fr _).setCell Fr _⟩
   | true =>
    refine tq 3 (.bool false) l ?_;refine tq 4 (.bool false) l ?_;refine tq 5 (.q w.heap.size 1) l ?_;refine tq 6 (.s (.p g) m.length a1) l ?_;refine tq 7 (.i (k:Int)) l ?_;refine tq 8 (.s (.p g) k a1) l ?_;refine tq 9 (.agg #[.i t,.i z,.s D F G,.i I,.i J,.i L,.i N,.s O cn Q,.s V Y Z,.s ma ml mc]) l ?_;refine tr 10 fun K hK=>?_;go_simp;refine Qm (Ba d9 _ (b0.drew.trans (b.mono (Bsx c)))) ?_;intro w8 f
    try dsimp only
    clear l;refine hK.out _ _ ⟨QC f (QL b lF) (QC b lF f0),QC f (QL b lF) (QC b lF f1),QC f (QL b lT) (QC b lT t0),QC f (QL b lT) (QC b lT t1),QC f (QL b c) (QC b c m0),QC f (QL b c) (QC b c m1),QC f (QL b c) (QC b c m2),QC f (QL b c) (QC b c m3),QC f (QL b c) (QC b c m4),QC f (QL b c) (QC b c m5),QC f (QL b c) (QC b c m6),QC f (QL b c) (QC b c m7),QC f (QL b c) (QC b c m8),QC f (QL b c) (QC b c m9)⟩ (fun l=>?_);clear hK K
    try simp only[QX]
    cases B with
    | true =>
     refine tq 11 (.bool true) l ?_;refine tq 12 (.bool true) l ?_;refine tn 13 undef l ?_;refine tn 14 undef l ?_;refine tn 15 undef l ?_;refine tn 16 undef l ?_;refine tq 17 (.bool true) l ?_;refine Bsg Lt ?_ _;have hX:=((b0.drew).trans (b.mono (Bsx c))).trans (f.mono (Br5 (Bsx c) b.size));have b1:=hB.trans (hX.mono b2);have b7:=stay hX CF;have b8:=stay hX CT;have a2:=stay hX CR;clear l f0 f1 t0 t1 m0 m1 m2 m3 m4 m5 m6 m7 m8 m9;have hr:=Ba a9 ();clear a9;have HE:Hid (q=(k:Int)):=by unfold Hid;rw[<- hr];simp
     clear hr;obtain⟨z0,z1,z2⟩:=cl3 a2;obtain⟨q0,q1,q2⟩:=fr3 a2;have lR:=Sp a2;simp at z0 z1 z2;go_wp2_with fail;refine tb (.agg #[.i 4,.i (k:Int),.i 0]) (by simp[results,Bvf,go_sem,z0,z1,z2]) ?_;rw[Ba HE,V6 Ck];exact⟨rfl,((b1.setCell Fr _).setCell Fr _).setCell Fr _⟩
    | false =>
     refine tq 11 (.bool false) l ?_;refine tq 12 (.bool false) l ?_;refine tq 13 (.agg #[.s a5 a7 a8,.s (.p g) m.length a1]) l ?_;refine tq 14 (.agg #[.s (.p tg) T.length a4,.s ya yn yc]) l ?_;refine tq 15 (.agg #[.i t,.i z,.s D F G,.i I,.i J,.i L,.i N,.s O cn Q,.s V Y Z,.s ma ml mc]) l ?_;refine tr 16 fun K hK=>?_;go_simp;refine Qm (Ba f2 _ ((b0.drew.trans (b.mono (Bsx c))).trans (f.mono (Br5 (Bsx c) b.size)))) ?_;intro w9 a0
     try dsimp only
     clear l;refine hK.out _ _ ⟨QC a0 (QL f (QL b lF)) (QC f (QL b lF) (QC b lF f0)),QC a0 (QL f (QL b lF)) (QC f (QL b lF) (QC b lF f1)),QC a0 (QL f (QL b lT)) (QC f (QL b lT) (QC b lT t0)),QC a0 (QL f (QL b lT)) (QC f (QL b lT) (QC b lT t1)),QC a0 (QL f (QL b c)) (QC f (QL b c) (QC b c m0)),QC a0 (QL f (QL b c)) (QC f (QL b c) (QC b c m1)),QC a0 (QL f (QL b c)) (QC f (QL b c) (QC b c m2)),QC a0 (QL f (QL b c)) (QC f (QL b c) (QC b c m3)),QC a0 (QL f (QL b c)) (QC f (QL b c) (QC b c m4)),QC a0 (QL f (QL b c)) (QC f (QL b c) (QC b c m5)),QC a0 (QL f (QL b c)) (QC f (QL b c) (QC b c m6)),QC a0 (QL f (QL b c)) (QC f (QL b c) (QC b c m7)),QC a0 (QL f (QL b c)) (QC f (QL b c) (QC b c m8)),QC a0 (QL f (QL b c)) (QC f (QL b c) (QC b c m9))⟩ (fun l=>?_);clear hK K
     try simp only[QX]
     refine tq 17 (.bool C) l ?_;refine Bsg Lt ?_ _;cases C with
     | true =>
      have hX:=(((b0.drew).trans (b.mono (Bsx c))).trans (f.mono (Br5 (Bsx c) b.size))).trans (a0.mono (Br5 (Br5 (Bsx c) b.size) f.size));have b1:=hB.trans (hX.mono b2);have b7:=stay hX CF;have b8:=stay hX CT;have a2:=stay hX CR;clear l f0 f1 t0 t1 m0 m1 m2 m3 m4 m5 m6 m7 m8 m9;have hr:=Ba a9 ();clear a9;have HE:Hid (q=(k:Int)):=by unfold Hid;rw[<- hr];simp
      clear hr;obtain⟨z0,z1,z2⟩:=cl3 a2;obtain⟨q0,q1,q2⟩:=fr3 a2;have lR:=Sp a2;simp at z0 z1 z2;go_wp2_with fail;refine tb (.agg #[.i 4,.i (k:Int),.i 0]) (by simp[results,Bvf,go_sem,z0,z1,z2]) ?_;rw[Ba HE,V6 Ck];exact⟨rfl,((b1.setCell Fr _).setCell Fr _).setCell Fr _⟩
     | false =>
      have hX:=(((b0.drew).trans (b.mono (Bsx c))).trans (f.mono (Br5 (Bsx c) b.size))).trans (a0.mono (Br5 (Br5 (Bsx c) b.size) f.size));have b1:=hB.trans (hX.mono b2);have b7:=stay hX CF;have b8:=stay hX CT;have a2:=stay hX CR;clear l f0 f1 t0 t1 m0 m1 m2 m3 m4 m5 m6 m7 m8 m9;have hr:=Ba a9 ();clear a9;have HG:Hid (Iu T (m.map Prod.fst) (k+1) ((m.map Prod.fst).drop (k+1))=q):=by unfold Hid;rw[<- hr];simp
      clear hr;go_wp2;go_roundw
      case rel=>exact⟨k+1,Ck,Mg,HG,b1,b7,b8,a2⟩
      case measure=>simp[intOf];omega
  have HE:Hid (q = -1):=by unfold Hid;rw[<- Ba HQ,Brq Fr];rfl
  have kb:¬(k:Int)<(m.length:Int):=Ck;clear HQ;obtain⟨z0,z1,z2⟩:=cl3 CR;obtain⟨q0,q1,q2⟩:=fr3 CR;simp at z0 z1 z2;go_wp2_with fail;refine tb (.agg #[.i 0,.i 0,.i 0]) (by simp[results,Bvf,go_sem,z0,z1,z2]) ?_;rw[Ba HE];exact⟨rfl,((hB.setCell Fr _).setCell Fr _).setCell Fr _⟩
variable {ya:Option Addr}{yn yc:Nat}
def Bdv(D z:TA)(F A:Nat)(f:List (Rd.Cls×Value))(c:List (Rd.Mth×Ex))(T:TI)(G J bm:Nat)(w:TW)(hT:T.length<=1000)(b8:Dy w G T) (b9:c.length<=6)(c0:f.length<=6)(c1:∀p∈f,p.1.fields.length<=1000)(c2:Fh w bm (.s D f.length F) f)(a9:Eb w bm (.s z c.length A) c)(c3:∀p∈c,Rz p.1):Calls prog 107 #[.agg #[.s D f.length F,.s z c.length A],.agg #[.s (.p G) T.length J,.s ya yn yc]] w fun e w' => e=.r (.agg #[.i (Gn T (Cd.fieldSum (f.map Prod.fst):Int) (c.map fun p=>p.1.cl) 0 (c.map Prod.fst)).1,.i (Gn T (Cd.fieldSum (f.map Prod.fst):Int) (c.map fun p=>p.1.cl) 0 (c.map Prod.fst)).2.1, .i (Gn T (Cd.fieldSum (f.map Prod.fst):Int) (c.map fun p=>p.1.cl) 0 (c.map Prod.fst)).2.2])/\Bl w w':=by
 have b0:=fun cl nm pa pl pc r1 r2 st ca ha ma cc hc mc (m:Rd.Mth) c4 w' (h:Bl w w') h1 h2 h3 h4 h5 =>
  Bhr D z F A G J ya yn yc cl nm pa pl pc r1 r2 st ca ha ma cc hc mc T bm f c m c4 w' hT (b8.below h) b9 c0 c1 (c2.kp (Kp.of_below (e:=none) h) Fm Fm) (a9.kp (Kp.of_below (e:=none) h) Fm Fm Fm Fm Fm) h1 h2 h3 h4 h5
 generalize (Cd.fieldSum (f.map Prod.fst):Int)=K at *;generalize (c.map fun p=>p.1.cl)=L at *;generalize hq:Gn T K L 0 (c.map Prod.fst)=q;obtain⟨R1,R2,R3⟩:=q;have B:Hid (Gn T K L 0 ((c.map Prod.fst).drop 0)=(R1,R2,R3)):=hq;have c5:=Bc b0;clear hq b0;have b3:=Em w (O1 D f.length F z c.length A) (O2 (.p G) T.length J ya yn yc) (O8 0 0 0);have C0:=Nz w (O1 D f.length F z c.length A) (O2 (.p G) T.length J ya yn yc) (O8 0 0 0);go_in;go_wp2
 go_loopw [11] (fun v wr=>∃k:Nat,k<=c.length/\v=.i (k:Int)/\Hid (Gn T K L k ((c.map Prod.fst).drop k)=(R1,R2,R3))/\Bl w wr/\wr.heap[w.heap.size]?=some (O1 D f.length F z c.length A) /\
   wr.heap[w.heap.size+1]?=some (O2 (.p G) T.length J ya yn yc)/\wr.heap[w.heap.size+1+1]?=some (O8 0 0 0))
  (fun v _=>c.length-(intOf v).toNat)
 case atStart=>exact⟨0,Ck,rfl,B,b3,C0.1,C0.2.1,C0.2.2⟩
 case round=>
  clear B b3 C0;obtain⟨k,hk,rfl,B,t,N,O,I⟩:=hrel;have a3:=t.size;by_cases a4:k<c.length
  ·have b4:Eb wr bm (.s z c.length A) c:=a9.kp (Kp.of_below (e:=none) t) Fm Fm Fm Fm Fm;obtain⟨o,g,hg,c9,a0,c6⟩:=b4.mth a4;replace a0:=T5 a0;have b5:=c3 _ (Brn a4);have hd:(c.map Prod.fst).drop k=c[k].1::(c.map Prod.fst).drop (k+1):=by
    rw[Brj (by simpa using a4)];simp
   have C:=Ba B;rw[hd,Gn]at C;clear hd;generalize c[k].1=y at *;obtain⟨-,-,-,-,e5,-,-,-,e8,a5,e9,a6,b6,lm,a7,a8⟩:=c6;have b7:o.ml=lm.length:=by rw[b6,<- a7];simp
   obtain⟨cl,nm,pa,pl,pc,r1,r2,lo,st,ca,cn,cc,ha,hl,hc,ma,ml,mc⟩:=o;simp only at a0 e5 e8 e9 b7 a5 a6 a8;subst e5 e8 e9 b7;obtain⟨y0,y1,y2,y3,y4,y5,y6,y7,y8,y9⟩:=a0;have l:Bl wr (wr.alloc (O18 cl nm pa pl pc r1 r2 y.locals st ca y.code.length cc ha y.handlers.length hc ma lm.length mc)):=QN _;have a1:=Ba c5 cl nm pa pl pc r1 r2 st ca ha ma cc hc mc y lm _ (t.trans (l.mono a3)) b5 a7 (a5.kp (Kp.of_below (e:=none) l) Fm) (a6.kp (Kp.of_below (e:=none) l) Fm) (a8.kp (Kp.of_below (e:=none) l) Fm Fm);simp only[PBd.val]at a1;generalize hb:Mt T K L y=b at *;obtain⟨b1,b2⟩:=b;simp only at a1 C;have HC:=Bc a1;clear a1 hb b4 b5 b6 a7 a5 a6 a8 B;subst hg;obtain⟨x0,x1⟩:=cl2 N;obtain⟨t0,t1⟩:=cl2 O;simp at x0 x1 t0 t1;have lF:=Sp N;have lT:=Sp O;have kb:(k:Int)<(c.length:Int):=Ck;by_cases h0:b1=0
   ·subst h0;have HG:Hid (Gn T K L (k+1) ((c.map Prod.fst).drop (k+1))=(R1,R2,R3)):=by unfold Hid;rw[<- C];simp
    clear C;go_wp2_with fail;refine Qm (Ba HC) ?_;intro w2 Q;have j:=(QB l Q).alloc (Br5 l.size Q.size) (O8 0 0 b2);have a2:=t.trans (j.mono a3);have c7:=stay j N;have c8:=stay j O;have V:=stay j I;clear Q l j y0 y1 y2 y3 y4 y5 y6 y7 y8 y9 x0 x1 t0 t1 lF lT N O I t;go_wp2;go_roundw
    case rel=>exact⟨k+1,Ck,Mg,HG,a2,c7,c8,V⟩
    case measure=>simp[intOf];omega
   rw[Th h0]at C;have HE:=Bc C;have d0:(b1 != 0)=true:=by simpa using h0
   clear C h0;go_wp2_with fail;refine Qb (Ba HC) l ?_;intro w2 Q j;have a2:=t.trans (j.mono a3);have V:=stay j I;have lR:=Sp V;have d1:=a2.size;have d2:=j.size;obtain⟨Y,Z,z2⟩:=cl3 V;obtain⟨q0,q1,q2⟩:=fr3 V;simp at Y Z z2;clear Q l j y0 y1 y2 y3 y4 y5 y6 y7 y8 y9 x0 x1 t0 t1 lF lT N O I t;go_wp2_with fail;refine tb (.agg #[.i b1,.i (k:Int),.i b2]) (by simp[results,results107,go_sem,Y,Z,z2,lR]) ?_;have e:=Ba HE;simp only[Prod.mk.injEq]at e;obtain⟨rfl,rfl,rfl⟩:=e;exact⟨rfl,(((a2.setCell Fr _).setCell Fr _).setCell Fr _).alloc Fr _⟩
  have HE:Hid ((R1,R2,R3)=((0:Int),(0:Int),(0:Int))):=by unfold Hid;rw[<- Ba B,Brq Fr];rfl
  have kb:¬(k:Int)<(c.length:Int):=Ck;clear B;obtain⟨Y,Z,z2⟩:=cl3 I;obtain⟨q0,q1,q2⟩:=fr3 I;simp at Y Z z2;go_wp2_with fail;refine tb (.agg #[.i 0,.i 0,.i 0]) (by simp[results,results107,go_sem,Y,Z,z2]) ?_;have e:=Ba HE;simp only[Prod.mk.injEq]at e;obtain⟨rfl,rfl,rfl⟩:=e;exact⟨rfl,((t.setCell Fr _).setCell Fr _).setCell Fr _⟩
end Go.Proofs.YtpcgnjolfahacaaGreat
