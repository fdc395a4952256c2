/- a part of the proof -/
import Derived.Test.YtcefiamkoincoaaGreatPk21
set_option maxRecDepth 100000
set_option maxHeartbeats 40000000
set_option linter.unusedVariables false
set_option linter.unusedSimpArgs false
namespace Go.Proofs.YtcefiamkoincoaaGreat
open Go.RowKit
structure Aes (E:Zx) (s:Zv):Prop where
 ok:E.Ok s
 len:s.sp.length=E.n
 sat:s.hop=false→∀ p∈E.ps,(s.at p).st=true→(s.at p).ri=false→(∃ y,E.rl p (s.at p).fr=some y)∧∀ q y a,Abj E p (s.at p).fr q y a→Adz E s q y a
 pl:∀ q,(s.at q).st=true→q∈E.ps
 why:∀ q,(s.at q).wa=true→∃ p∈E.ps,(s.at p).st=true∧Aey E p q
 x0:s.hop=false→∃ y,s.F 0=some y∧Aac E.T E.x0 y
abbrev Abc (E:Zx) (bh:Cd.Ins→Zt→Option Zt) (i:Cd.Ins) (x:Zt) (s:Zv):Zv:=Acz E.T E.hi E.hs bh i x s
theorem Zj {E:Zx} (g:E.Good) {bh:Cd.Ins→Zt→Option Zt}{i:Cd.Ins}{p:Nat} (hi:Adf E bh i p) {s:Zv} (h:Aes E s) (hr:(s.at p).ri=true):Aes E (Abc E bh i (s.at p).fr (s.calm p)):=by
 have hp:p<s.sp.length:=by rw[h.len];exact g.lt p hi.mem
 have hst:(s.at p).st=true:=(h.ok _ (Abx hp)).2 hr;have hx:=Dl h.ok hst;obtain⟨c1,c2,_⟩:=Ad8 (K:=0) h.ok hp hr;have hn:(s.calm p).sp.length=E.n:=c2.trans h.len;obtain⟨c,cr⟩:=Rh g hi hx c1 hn;generalize hs':Abc E bh i (s.at p).fr (s.calm p)=s' at *;change Acz E.T E.hi E.hs bh i (s.at p).fr (s.calm p)=s' at hs';rw[hs']at c cr;have cst:∀ j,((s.calm p).at j).st=(s.at j).st:=fun j=>by rw[Fx s hp];split<;>rename_i e<;>simp[e]
 have cfr:∀ j,((s.calm p).at j).fr=(s.at j).fr:=fun j=>by rw[Fx s hp];split<;>rename_i e<;>simp[e]
 have cwa:∀ j,((s.calm p).at j).wa=(s.at j).wa:=fun j=>by rw[Fx s hp];split<;>rename_i e<;>simp[e]
 have cF:∀ j,(s.calm p).F j=s.F j:=fun j=>by unfold Zv.F;rw[cst,cfr]
 have ps':(s'.at p).st=true:=(c.up.st p (by rw[cst];exact hst)).1;refine⟨c.up.ok,c.up.len.trans hn,fun hh r hrp hrs hrr=>?_,fun q hq=>?_,fun q hq=>?_,fun hh=>?_⟩
 ·obtain⟨u1,u2,u3⟩:=c.up.ri r hrr;rw[u2,cfr];by_cases e:r=p
  ·subst e;exact⟨cr hh,fun q y a hg=>c.told hh q y a hg⟩
  ·have hop:(s.calm p).hop=false:=by
    cases e:(s.calm p).hop with
    | false=>rfl
    | true=>rw[c.up.hop e]at hh;cases hh
   have rr:(s.at r).ri=false:=by rw[Fx s hp,if_neg e]at u1;exact u1
   have rs:(s.at r).st=true:=by rw[← cst,← u3];exact hrs
   obtain⟨a1,a2⟩:=h.sat hop r hrp rs rr;refine⟨a1,fun q y a hg=>?_⟩;have og:=Ev g hrp (Dl h.ok rs) hg;have t:=a2 q y a hg;have t':Adz E (s.calm p) q y a:=⟨t.1,t.2.1,t.2.2.1,by rw[cF];exact t.2.2.2.1,by rw[cwa];exact t.2.2.2.2⟩;exact t'.up g c1 c.up ⟨fun t ht=>(og.2.1 t ht).1,fun t ht=>(og.2.2 t ht).1⟩
 ·rcases c.st q hq with h1|⟨q',y,a,hg,rfl,hlt⟩
  ·rw[cst]at h1;exact h.pl q h1
  ·exact Qq g hi.mem hg hlt
 ·rcases c.wa q hq with h1|⟨q',y,hg,rfl⟩
  ·rw[cwa]at h1;obtain⟨r,hr1,hr2,hr3⟩:=h.why q h1;exact⟨r,hr1,(c.up.st r (by rw[cst];exact hr2)).1,hr3⟩
  ·exact⟨p,hi.mem,ps',Ov hg⟩
 ·have hop:(s.calm p).hop=false:=by
   cases e:(s.calm p).hop with
   | false=>rfl
   | true=>rw[c.up.hop e]at hh;cases hh
  obtain⟨y,hy,hl⟩:=h.x0 hop;obtain⟨e1,rfl⟩:=Ct.1 hy;obtain⟨k1,k2⟩:=c.up.st 0 (by rw[cst];exact e1);rw[cfr]at k2;exact⟨_,Ct.2 ⟨k1,rfl⟩,hl.trans g k2 g.x0.arg (Dl h.ok e1).arg (Dl c.up.ok k1).arg⟩
theorem Yt {E:Zx} (g:E.Good) {F:Nat→Option Zt} (hF:Ac0 E F) {bh:Cd.Ins→Zt→Option Zt}{i:Cd.Ins}{p:Nat} (hi:Adf E bh i p) {s:Zv} (h:Aes E s) (hr:(s.at p).ri=true) (hu:Abh E F s):Abh E F (Abc E bh i (s.at p).fr (s.calm p)):=by
 have hp:p<s.sp.length:=by rw[h.len];exact g.lt p hi.mem
 have hst:(s.at p).st=true:=(h.ok _ (Abx hp)).2 hr;obtain⟨c1,c2,_⟩:=Ad8 (K:=0) h.ok hp hr;obtain⟨z,hz,hl⟩:=hu.2 p hst;refine Q0 g hF hi (Dl h.ok hst) hz hl c1 (c2.trans h.len) ⟨hu.1,fun j hj=>?_⟩;have cst:((s.calm p).at j).st=(s.at j).st:=by rw[Fx s hp];split<;>rename_i e<;>simp[e]
 have cfr:((s.calm p).at j).fr=(s.at j).fr:=by rw[Fx s hp];split<;>rename_i e<;>simp[e]
 rw[cst]at hj;rw[cfr];exact hu.2 j hj
theorem Vr {E:Zx} (g:E.Good) {bh:Cd.Ins→Zt→Option Zt}:∀ (L:List Cd.Ins),(∀ i∈L,∃ p,Adf E bh i p)→∀ (b:Bool) {s:Zv},Aes E s →
  Aes E (Zz (Abc E bh) L b s).1∧(∀ F,Ac0 E F→Abh E F s→Abh E F (Zz (Abc E bh) L b s).1) ∧
  ((Zz (Abc E bh) L b s).2=false→b=false∧(Zz (Abc E bh) L b s).1=s∧∀ i∈L,(s.at i.place.toNat).ri=false)
 | [],_,b,s,h=>⟨h,fun _ _ hu=>hu,fun hb=>⟨hb,rfl,fun i hi=>by simp at hi⟩⟩
 | i::r,hL,b,s,h=>by
  obtain⟨p,hp⟩:=hL i (by simp);have ih:=fun b {s:Zv} h=>Vr g (bh:=bh) r (fun z hz=>hL z (by simp[hz])) b (s:=s) h;have hlt:p<s.sp.length:=by rw[h.len];exact g.lt p hp.mem
  have epl:i.place.toNat=p:=by rw[hp.pl];simp
  unfold Zz
  split
  ·next hc =>
   obtain⟨a1,a2,a3⟩:=ih b h;refine⟨a1,a2,fun hb=>?_⟩;obtain⟨b1,b2,b3⟩:=a3 hb;refine⟨b1,b2,fun z hz=>?_⟩;rcases List.mem_cons.1 hz with rfl|hz
   ·rcases hc with hc|hc
    ·rw[hp.pl]at hc;omega
    ·exact hc
   ·exact b3 z hz
  ·next hc =>
   have hr:(s.at p).ri=true:=by
    cases e:(s.at p).ri with
    | true=>rfl
    | false=>exact absurd (.inr (by rw[epl];exact e)) hc
   rw[epl];obtain⟨a1,a2,a3⟩:=ih true (Zj g hp h hr);refine⟨a1,fun F hF hu=>a2 F hF (Yt g hF hp h hr hu),fun hb=>?_⟩;exact absurd (a3 hb).1 (by simp)
theorem Oq {E:Zx} (g:E.Good) {bh:Cd.Ins→Zt→Option Zt}{L:List Cd.Ins} (hL:∀ i∈L,∃ p,Adf E bh i p) (hp:∀ i∈L,0≤i.place) {K:Nat} (hk:∀ i∈L,∀ x s,E.I x→E.Ok s→Abp E.T E.lo E.hi E.isN K s (Abc E bh i x s)) :
  ∀ (m:Nat) {s:Zv},Aes E s→Ac4 E.T K s<m→Aes E (Acc (Abc E bh) L m s)∧(∀ F,Ac0 E F→Abh E F s→Abh E F (Acc (Abc E bh) L m s)) ∧
   ((Acc (Abc E bh) L m s).hop=false→∀ i∈L,((Acc (Abc E bh) L m s).at i.place.toNat).ri=false)
 | 0,s,_,h=>absurd h (by omega)
 | m+1,s,h,hm=>by
  obtain⟨a1,a2,a3⟩:=Vr g (bh:=bh) L hL false h;have h1:=Hk (K:=K) L hp hk false h.ok;unfold Acc
  split
  ·next hc =>
   have:=h1.2 hc.1 rfl;obtain⟨b1,b2,b3⟩:=Oq g hL hp hk m a1 (by omega);exact⟨b1,fun F hF hu=>b2 F hF (a2 F hF hu),b3⟩
  ·next hc =>
   refine⟨a1,a2,fun hh=>?_⟩;have:(Zz (Abc E bh) L false s).2=false:=by
    cases e:(Zz (Abc E bh) L false s).2 with
    | false=>rfl
    | true=>exact absurd ⟨e,hh⟩ hc
   obtain⟨_,b2,b3⟩:=a3 this;rw[b2];exact b3
def Ac8 (E:Zx):Zv:=⟨List.replicate E.n Ab4,false⟩
theorem Iq (E:Zx) (q:Nat):(Ac8 E).at q=Ab4:=by
 unfold Ac8 Zv.at;rw[List.getD_eq_getElem?_getD,List.getElem?_replicate]
 split<;>rfl
def Aan (E:Zx) (bh:Cd.Ins→Zt→Option Zt) (L:List Cd.Ins):Zv:=Aeq E.T (Acv E.T E.lo E.hi) (Abc E bh) L (Aaf E.T E.hi E.x0 0 (Ac8 E))
theorem Lm {E:Zx} (g:E.Good) {bh:Cd.Ins→Zt→Option Zt}{L:List Cd.Ins} (hL:∀ i∈L,∃ p,Adf E bh i p):∀ i∈L,∀ x s,E.I x→E.Ok s→Abp E.T E.lo E.hi E.isN (Acv E.T E.lo E.hi) s (Abc E bh i x s):=fun i hi x s hx hs=>by
 obtain⟨p,hp⟩:=hL i hi;exact Yc g.T hx (fun h hh=>(g.hnd h hh).2.2.2) (fun y hy=>by rw[hp.rl x hx]at hy;exact g.rl p hp.mem x y hx hy) hs
theorem Qo (E:Zx):E.Ok (Ac8 E):=fun p hp=>by
 have:=List.eq_of_mem_replicate hp;subst this;exact⟨fun h=>(by cases h),fun h=>(by cases h)⟩
theorem Fo {E:Zx} (g:E.Good) {bh:Cd.Ins→Zt→Option Zt}{L:List Cd.Ins} (hL:∀ i∈L,∃ p,Adf E bh i p) (hA:∀ p∈E.ps,∃ i∈L,i.place=(p:Int)) :
  E.Ok (Aan E bh L)∧(Aan E bh L).sp.length=E.n∧((Aan E bh L).hop=false→Ac0 E (Aan E bh L).F∧(∀ q,(Aan E bh L).F q≠none→q∈E.ps)∧(∀ q,((Aan E bh L).at q).wa=true↔∃ p∈E.ps,(Aan E bh L).F p≠none∧Aey E p q)) ∧
  (∀ F,Ac0 E F→(Aan E bh L).hop=false∧∀ p x,(Aan E bh L).F p=some x→∃ y,F p=some y∧Aac E.T x y):=by
 have hz:0<E.n:=g.lt 0 g.zero;have i0:=Qo E;have il:(Ac8 E).sp.length=E.n:=by simp[Ac8]
 have hx0:E.x0.locals.length=E.lo∧(∀ t∈E.x0.locals,Aaa E.T E.isN t)∧∀ t∈E.x0.stack,Aaa E.T E.isN t:=⟨g.x0.lo,g.x0.tl,g.x0.ts⟩;have c:=Fe g i0 il hx0 0;have J0:Aes E (Aaf E.T E.hi E.x0 0 (Ac8 E)):=by
  refine⟨c.up.ok,c.up.len.trans il,fun hh p hp hs hr=>?_,fun q hq=>?_,fun q hq=>?_,fun hh=>?_⟩
  ·obtain⟨_,_,e⟩:=c.up.ri p hr;rw[hs,Iq]at e;cases e
  ·rcases c.st q hq with h|⟨rfl,_⟩
   ·rw[Iq]at h;cases h
   ·exact g.zero
  ·rcases c.wa q hq with h|⟨_,h⟩
   ·rw[Iq]at h;cases h
   ·cases h
  ·exact(c.told hh).2.2.2.1
 have hpl:∀ i∈L,0≤i.place:=fun i hi=>by obtain⟨p,hp⟩:=hL i hi;rw[hp.pl];omega
 obtain⟨r1,r2,r3⟩:=Oq g hL hpl (Lm g hL) (Ac4 E.T (Acv E.T E.lo E.hi) (Aaf E.T E.hi E.x0 0 (Ac8 E))+1) J0 (by omega);change Aes E (Aan E bh L) at r1;change ∀ F,Ac0 E F→_→Abh E F (Aan E bh L) at r2;change (Aan E bh L).hop=false→∀ i∈L,((Aan E bh L).at i.place.toNat).ri=false at r3;refine⟨r1.ok,r1.len,fun hh=>⟨⟨fun p x hx=>?_,r1.x0 hh,fun p hp x hx=>?_⟩,fun q hq=>?_,fun q=>⟨fun hq=>?_,?_⟩⟩,fun F hF=>?_⟩
 ·obtain⟨e1,rfl⟩:=Ct.1 hx;exact Dl r1.ok e1
 ·obtain⟨e1,rfl⟩:=Ct.1 hx;obtain⟨i,hi,hip⟩:=hA p hp;have hr:=r3 hh i hi;rw[hip]at hr;obtain⟨s1,s2⟩:=r1.sat hh p hp e1 (by simpa using hr);exact⟨s1,fun q y a hg=>by obtain⟨t1,t2,t3,t4,_⟩:=s2 q y a hg;exact⟨t1,t2,t3,t4,fun _=>trivial⟩⟩
 ·cases e:(Aan E bh L).F q with
  | none=>exact absurd e hq
  | some x=>exact r1.pl q (Ct.1 e).1
 ·obtain⟨p,h1,h2,h3⟩:=r1.why q hq;exact⟨p,h1,by rw[Ct.2 ⟨h2,rfl⟩];simp,h3⟩
 ·rintro ⟨p,h1,h2,h3⟩;have e1:((Aan E bh L).at p).st=true:=by
   cases e:(Aan E bh L).F p with
   | none=>exact absurd e h2
   | some x=>exact(Ct.1 e).1
  obtain⟨i,hi,hip⟩:=hA p h1;have hr:=r3 hh i hi;rw[hip]at hr;obtain⟨⟨y,hy⟩,s2⟩:=r1.sat hh p h1 e1 (by simpa using hr);rcases h3 with ⟨h,hm,hc,rfl⟩|⟨hj,rfl⟩
  ·exact(s2 _ _ _ (.hnd h hm hc)).2.2.2.2 rfl
  ·exact(s2 _ _ _ (.jmp y hy hj)).2.2.2.2 rfl
 ·obtain⟨y,hy,hl⟩:=hF.x0;have u0:Abh E F (Ac8 E):=⟨rfl,fun q hq=>by rw[Iq]at hq;cases hq⟩;have u1:=Ga g hF.inv i0 il u0 hx0 (q:=0) (by omega) (by omega) hy hl;have u2:=r2 F hF u1;exact⟨u2.1,fun p x hx=>by obtain⟨e1,rfl⟩:=Ct.1 hx;exact u2.2 p e1⟩
structure Acm where
 on:Bool
 aim:Bool
 fr:Zt
def Ady:Acm:=⟨false,false,⟨[],[]⟩⟩
structure Z8 where
 sp:List Acm
 ch:Bool
 fine:Bool
def Z8.at (s:Z8) (q:Nat):Acm:=s.sp.getD q Ady
def Abg (T:List Int) (s:Acm) (y:Zt) (a:Bool):Acm × Bool × Bool :=
 if s.on=false then (⟨true,a,y⟩,true,true) else if s.fr.stack.length≠y.stack.length then (s,false,false)
 else (⟨true,s.aim || a,Aa1 T s.fr y⟩,!(decide ((Aa1 T s.fr y).locals=s.fr.locals)) || !(decide ((Aa1 T s.fr y).stack=s.fr.stack)) || (a && !s.aim),true)
def Aa5 (T:List Int) (q:Int) (y:Zt) (a:Bool) (s:Z8):Z8 :=
 ⟨s.sp.set q.toNat (Abg T (s.at q.toNat) y a).1,s.ch || (Abg T (s.at q.toNat) y a).2.1,s.fine&&(Abg T (s.at q.toNat) y a).2.2⟩
def Z8.bad (s:Z8):Z8:=⟨s.sp,s.ch,false⟩
def Aap (T:List Int) (hi:Int) (p:Int) (lo:List (Int × Int)):List Rd.Hnd→Z8→Z8 × Bool
 | [],s=>(s,true)
 | h::r,s=>if Aao h p=true then (if hi<1 then (s.bad,false) else Aap T hi p lo r (Aa5 T h.target ⟨lo,[(3,h.cl)]⟩ true s)) else Aap T hi p lo r s
def Adw (T:List Int) (n:Nat) (op ar nx:Int) (R:Option Zt) (s:Z8):Z8 :=
 match R with
 | none=>s.bad
 | some y =>
  if Abv op=false then (if Aad op=true then Aa5 T ar y true s else s)
  else if (n:Int)≤nx then (if Aad op=true then Aa5 T ar y true s else s).bad else Aa5 T nx y false (if Aad op=true then Aa5 T ar y true s else s)
def Abm (E:Zx) (p:Nat) (s:Z8):Z8 :=
 if (Aap E.T E.hi (p:Int) (s.at p).fr.locals E.hs s).2=false then (Aap E.T E.hi (p:Int) (s.at p).fr.locals E.hs s).1
 else Adw E.T E.n (E.op p) (E.ar p) (E.nx p) (E.rl p (s.at p).fr) (Aap E.T E.hi (p:Int) (s.at p).fr.locals E.hs s).1
def Ab9 (E:Zx):List Nat→Z8→Option Z8
 | [],s=>some s
 | p::r,s=>if (s.at p).on=true then (if (Abm E p s).fine=false then none else Ab9 E r (Abm E p s)) else Ab9 E r s
def Z8.calm (s:Z8):Z8:=⟨s.sp,false,s.fine⟩
def Ac3 (E:Zx):Nat→Z8→Option Z8
 | 0,s=>some s
 | k+1,s=>match Ab9 E E.ps s.calm with
  | none=>none
  | some t=>if t.ch=false then some t else Ac3 E k t
def Z8.F (s:Z8) (q:Nat):Option Zt:=if (s.at q).on=true then some (s.at q).fr else none
theorem Cn {s:Z8}{q:Nat}{x:Zt}:s.F q=some x↔(s.at q).on=true∧(s.at q).fr=x:=by
 unfold Z8.F
 split
 ·next h=>simp[h]
 ·next h=>simp[h]
theorem Lu (sp:List Acm) (ch fine:Bool) {q:Nat} (hq:q<sp.length) (y:Acm) (i:Nat):(⟨sp.set q y,ch,fine⟩:Z8).at i=if i=q then y else sp.getD i Ady:=by
 unfold Z8.at;simp only[List.getD_eq_getElem?_getD,List.getElem?_set];by_cases e:q=i
 ·subst e;simp[hq]
 ·rw[if_neg e,if_neg (fun h=>e h.symm)]
def Ab5 (E:Zx) (s:Z8):Prop:=∀ q,((s.at q).on=true→E.I (s.at q).fr)∧((s.at q).aim=true→(s.at q).on=true)
def Acf (E:Zx) (p:Acm):Nat:=(if p.on=true then Adi E.T p.fr else Acv E.T E.lo E.hi)+(if p.aim=true then 0 else 1)
def Acs (E:Zx) (s:Z8):Nat:=(s.sp.map (Acf E)).sum
structure Aa8 (E:Zx) (s s':Z8) (R:Int→Zt→Bool→Prop):Prop where
 ok:Ab5 E s'
 len:s'.sp.length=s.sp.length
 fine:s.fine=false→s'.fine=false
 up:∀ q,(s.at q).on=true→(s'.at q).on=true∧Aac E.T (s.at q).fr (s'.at q).fr
 aim:∀ q,(s.at q).aim=true→(s'.at q).aim=true
 same:s'.ch=false→s.ch=false∧s'.sp=s.sp
 told:s'.fine=true→∀ q y a,R q y a→(∃ z,s'.F q.toNat=some z∧Aac E.T y z)∧(a=true→(s'.at q.toNat).aim=true)
 on:∀ i,(s'.at i).on=true→(s.at i).on=true∨∃ q y a,R q y a∧i=q.toNat
 why:∀ i,(s'.at i).aim=true→(s.at i).aim=true∨∃ q y,R q y true∧i=q.toNat
 nu:Acs E s'≤Acs E s∧(s.ch=false→s'.ch=true→Acs E s' < Acs E s)
theorem Aa8.nil {E:Zx}{s:Z8} (h:Ab5 E s) {R:Int→Zt→Bool→Prop} (hR:∀ q y a,¬ R q y a):Aa8 E s s R :=
 ⟨h,rfl,fun h=>h,fun q h=>⟨h,.refl _ _⟩,fun _ h=>h,fun h=>⟨h,rfl⟩,fun _ q y a h=>absurd h (hR q y a),fun _ h=>.inl h,fun _ h=>.inl h,Nat.le_refl _,fun h g=>by rw[h]at g;cases g⟩
theorem Aa8.trans {E:Zx} (g:E.Good) {s t u:Z8} (hs:Ab5 E s) {A B R:Int→Zt→Bool→Prop} (h:Aa8 E s t A) (k:Aa8 E t u B) (hA:∀ q y a,A q y a→Aay E.T y) (hR:∀ q y a,R q y a↔A q y a∨B q y a):Aa8 E s u R:=by
 refine⟨k.ok,k.len.trans h.len,fun e=>k.fine (h.fine e),fun q hq=>?_,fun q hq=>k.aim q (h.aim q hq),fun e=>?_,fun e q y a hr=>?_,fun i hi=>?_,fun i hi=>?_,Nat.le_trans k.nu.1 h.nu.1,fun e1 e2=>?_⟩
 ·obtain⟨h1,h2⟩:=h.up q hq;obtain⟨k1,k2⟩:=k.up q h1;exact⟨k1,h2.trans g k2 ((hs q).1 hq).arg ((h.ok q).1 h1).arg ((k.ok q).1 k1).arg⟩
 ·obtain⟨k1,k2⟩:=k.same e;obtain⟨h1,h2⟩:=h.same k1;exact⟨h1,k2.trans h2⟩
 ·have ht:t.fine=true:=by
   cases e':t.fine with
   | true=>rfl
   | false=>rw[k.fine e']at e;cases e
  rcases(hR q y a).1 hr with h1|h1
  ·obtain⟨⟨z,hz,hl⟩,ha⟩:=h.told ht q y a h1;obtain⟨z1,rfl⟩:=Cn.1 hz;obtain⟨k1,k2⟩:=k.up _ z1;exact⟨⟨_,Cn.2 ⟨k1,rfl⟩,hl.trans g k2 (hA q y a h1) ((h.ok _).1 z1).arg ((k.ok _).1 k1).arg⟩,fun ea=>k.aim _ (ha ea)⟩
  ·exact k.told e q y a h1
 ·rcases k.on i hi with h1|⟨q,y,a,h1,h2⟩
  ·exact(h.on i h1).imp id fun ⟨q,y,a,h1,h2⟩=>⟨q,y,a,(hR _ _ _).2 (.inl h1),h2⟩
  ·exact .inr ⟨q,y,a,(hR _ _ _).2 (.inr h1),h2⟩
 ·rcases k.why i hi with h1|⟨q,y,h1,h2⟩
  ·exact(h.why i h1).imp id fun ⟨q,y,h1,h2⟩=>⟨q,y,(hR _ _ _).2 (.inl h1),h2⟩
  ·exact .inr ⟨q,y,(hR _ _ _).2 (.inr h1),h2⟩
 ·have h1:=h.nu;have k1:=k.nu;cases et:t.ch with
  | true=>have:=h1.2 e1 et;omega
  | false=>have:=k1.2 et e2;omega
theorem Aa8.bad {E:Zx}{s t:Z8}{A R:Int→Zt→Bool→Prop} (h:Aa8 E s t A) (hR:∀ q y a,A q y a→R q y a):Aa8 E s t.bad R :=
 ⟨h.ok,h.len,fun _=>rfl,h.up,h.aim,h.same,fun e=>(by cases e),fun i hi=>(h.on i hi).imp id fun ⟨q,y,a,h1,h2⟩=>⟨q,y,a,hR _ _ _ h1,h2⟩,fun i hi=>(h.why i hi).imp id fun ⟨q,y,h1,h2⟩=>⟨q,y,hR _ _ _ h1,h2⟩,h.nu⟩
theorem Vj {T:List Int} (hT:Tr.Ok T) {x y:Zt} (hx:Aay T x) (hy:Aay T y) (hl:x.locals.length=y.locals.length) (hs:x.stack.length=y.stack.length):Adi T (Aa1 T x y)≤Adi T x∧(¬ ((Aa1 T x y).locals=x.locals∧(Aa1 T x y).stack=x.stack)→Adi T (Aa1 T x y)<Adi T x):=by
 obtain⟨j1,j2,j3⟩:=He hT hx hy hl hs;have aux:∀ (a b:List (Int × Int)),(∀ t∈a,Tr.Arg T t.1 t.2)→(∀ t∈b,Tr.Arg T t.1 t.2)→a.length=b.length→Acl T (List.zipWith (Tr.joinT T) a b)≤Acl T a∧(List.zipWith (Tr.joinT T) a b≠a→Acl T (List.zipWith (Tr.joinT T) a b)<Acl T a):=by
  intro a
  induction a with
  | nil=>intro b _ _ _;exact⟨by simp[Acl],fun h=>absurd rfl h⟩
  | cons s a ih =>
   intro b ha hb he;cases b with
   | nil=>simp at he
   | cons t b =>
    have h1:=ih b (fun t ht=>ha t (by simp[ht])) (fun t ht=>hb t (by simp[ht])) (by simpa using he);have hs:=ha s (by simp);have ht:=hb t (by simp);have e:Tr.joinT T s t=Tr.joinT T t s:=Tr.join_comm hT hs ht;have h2:=Qd hT (a:=t) (b:=s) ht hs;have h3:Tr.fitsB T t.1 t.2 s.1 s.2=true→Tr.joinT T t s=s:=fun hf=>by unfold Tr.joinT;rw[if_pos hf]
    unfold Acl at h1 ⊢;simp only[List.zipWith_cons_cons,List.map_cons,List.sum_cons];rw[e];refine⟨by omega,fun hne=>?_⟩;by_cases hf:Tr.fitsB T t.1 t.2 s.1 s.2=true
    ·rw[h3 hf]at hne ⊢;have:=h1.2 (fun e=>hne (by rw[e]));omega
    ·have:=h2.2 (by simpa using hf);omega
 have a1:=aux x.locals y.locals hx.1 hy.1 hl;have a2:=aux x.stack y.stack hx.2 hy.2 hs;unfold Adi Aa1;simp only;refine⟨by omega,fun hn=>?_⟩;by_cases e:List.zipWith (Tr.joinT T) x.locals y.locals=x.locals
 ·have:=a2.2 (fun e2=>hn ⟨e,e2⟩);omega
 ·have:=a1.2 e;omega
theorem Eh {E:Zx} (g:E.Good) {s:Z8} (h:Ab5 E s) (hn:s.sp.length=E.n) {y:Zt} (hy:E.I y) {q:Int} (h0:0≤q) (h1:q<(E.n:Int)) (a:Bool):Aa8 E s (Aa5 E.T q y a s) (fun q' y' a'=>q'=q∧y'=y∧a'=a):=by
 have hq:q.toNat<s.sp.length:=by omega
 have eat:∀ i,(s.sp.getD i Ady)=s.at i:=fun _=>rfl;have key:∀ (p:Acm) (c f:Bool),Abg E.T (s.at q.toNat) y a=(p,c,f) →
   (p.on=true→E.I p.fr)→(p.aim=true→p.on=true)→((s.at q.toNat).on=true→p.on=true∧Aac E.T (s.at q.toNat).fr p.fr)→((s.at q.toNat).aim=true→p.aim=true)→(c=false→p=s.at q.toNat)→(f=true→p.on=true∧Aac E.T y p.fr∧(a=true→p.aim=true)) →
   (p.aim=true→(s.at q.toNat).aim=true∨a=true)→(Acf E p≤Acf E (s.at q.toNat)∧(c=true→Acf E p<Acf E (s.at q.toNat)))→Aa8 E s (Aa5 E.T q y a s) (fun q' y' a'=>q'=q∧y'=y∧a'=a):=by
  intro p c f e k1 k1' k2 k3 k4 k5 k6 k7;have et:Aa5 E.T q y a s=⟨s.sp.set q.toNat p,s.ch || c,s.fine&&f⟩:=by unfold Aa5;rw[e]
  rw[et];have hat:=fun i=>Lu s.sp (s.ch || c) (s.fine&&f) hq p i;have hsum:=Hj (Acf E) Ady p s.sp q.toNat hq;have enu:Acs E (⟨s.sp.set q.toNat p,s.ch || c,s.fine&&f⟩:Z8)+Acf E (s.at q.toNat)=Acs E s+Acf E p:=hsum;refine⟨fun i=>?_,by simp,fun e=>by simp[e],fun i hi=>?_,fun i hi=>?_,fun e=>?_,fun hfi q' y' a' hr=>?_,fun i hi=>?_,fun i hi=>?_,by omega,fun e1 e2=>?_⟩
  ·rw[hat]
   split
   ·exact⟨k1,k1'⟩
   ·exact h i
  ·rw[hat]
   split
   ·next e=>subst e;exact k2 hi
   ·exact⟨hi,.refl _ _⟩
  ·rw[hat]
   split
   ·next e=>subst e;exact k3 hi
   ·exact hi
  ·have ec:s.ch=false∧c=false:=by simpa using e
   refine⟨ec.1,?_⟩;rw[k4 ec.2];unfold Z8.at;rw[List.getD_eq_getElem?_getD,List.getElem?_eq_getElem hq]
   simp
  ·obtain⟨rfl,rfl,rfl⟩:=hr;have ef:f=true:=by
    have:s.fine=true∧f=true:=by simpa using hfi
    exact this.2
   obtain⟨m1,m2,m3⟩:=k5 ef;have e1:(⟨s.sp.set q'.toNat p,s.ch || c,s.fine&&f⟩:Z8).at q'.toNat=p:=by rw[hat,if_pos rfl]
   exact⟨⟨_,Cn.2 ⟨by rw[e1];exact m1,rfl⟩,by rw[e1];exact m2⟩,fun ea=>by rw[e1];exact m3 ea⟩
  ·rw[hat]at hi
   split at hi
   ·next e=>exact .inr ⟨q,y,a,⟨rfl,rfl,rfl⟩,e⟩
   ·exact .inl hi
  ·rw[hat]at hi
   split at hi
   ·next e =>
    subst e;rcases k6 hi with h | h
    ·exact .inl h
    ·exact .inr ⟨q,y,⟨rfl,rfl,h.symm⟩,rfl⟩
   ·exact .inl hi
  ·have ec:c=true:=by simpa[e1] using e2
   have:=k7.2 ec;omega
 have hlt:=Xh hy;cases hon:(s.at q.toNat).on with
 | false =>
  have haim:(s.at q.toNat).aim=false:=by
   cases e:(s.at q.toNat).aim with
   | false=>rfl
   | true=>have:=(h q.toNat).2 e;rw[hon]at this;cases this
  refine key ⟨true,a,y⟩ true true (by unfold Abg;rw[if_pos hon]) (fun _=>hy) (fun _=>rfl) (fun e=>by rw[hon]at e;cases e) (fun e=>by rw[haim]at e;cases e) (fun e=>by cases e) (fun _=>⟨rfl,.refl _ _,fun e=>e⟩) (fun e=>.inr e) ?_;have:Acf E ⟨true,a,y⟩<Acf E (s.at q.toNat):=by
   simp only[Acf,Acv,hon,haim,if_true,Bool.false_eq_true,if_false]
   split<;>omega
  exact⟨Nat.le_of_lt this,fun _=>this⟩
 | true =>
  have hx:=(h q.toNat).1 hon;by_cases hs:(s.at q.toNat).fr.stack.length≠y.stack.length
  ·exact key (s.at q.toNat) false false (by unfold Abg;rw[if_neg (by simp[hon]),if_pos hs]) (h q.toNat).1 (h q.toNat).2 (fun e=>⟨e,.refl _ _⟩) (fun e=>e) (fun _=>rfl) (fun e=>by cases e) (fun e=>.inl e) ⟨Nat.le_refl _,fun e=>by cases e⟩
  ·have hs':(s.at q.toNat).fr.stack.length=y.stack.length:=by simpa using hs
   have hl':(s.at q.toNat).fr.locals.length=y.locals.length:=by rw[hx.lo,hy.lo]
   obtain⟨j1,j2,j3⟩:=He g.T hx.arg hy.arg hl' hs';obtain⟨c1,c2⟩:=Vj g.T hx.arg hy.arg hl' hs';have ji:=J5 g.T hx hy;refine key ⟨true,(s.at q.toNat).aim || a,Aa1 E.T (s.at q.toNat).fr y⟩ _ true (by unfold Abg;rw[if_neg (by simp[hon]),if_neg hs]) (fun _=>ji) (fun _=>rfl) (fun _=>⟨rfl,j1⟩) (fun e=>by simp[e]) (fun e=>?_) (fun _=>⟨rfl,j2,fun e=>by simp[e]⟩) (fun e=>by simpa using e) ?_
   ·simp only[Bool.or_eq_false_iff,Bool.not_eq_eq_eq_not,Bool.not_false,decide_eq_true_eq,Bool.and_eq_false_imp]at e;obtain⟨⟨e1,e2⟩,e3⟩:=e;have ea:((s.at q.toNat).aim || a)=(s.at q.toNat).aim:=by
     cases h1:a with
     | false=>simp
     | true=>have:=e3 h1;simp[this]
    generalize hp:s.at q.toNat=P at *;obtain⟨on,aim,⟨fl,fs⟩⟩:=P;simp only at hon ea e1 e2 ⊢;rw[hon,ea];generalize hj:Aa1 E.T ⟨fl,fs⟩ y=J at *;obtain⟨jl,js⟩:=J;simp only at e1 e2;rw[e1,e2]
   ·unfold Acf;rw[if_pos rfl,if_pos hon];have ca:(if ((s.at q.toNat).aim || a)=true then 0 else 1)≤(if (s.at q.toNat).aim=true then (0:Nat) else 1):=by
     cases (s.at q.toNat).aim<;>cases a<;>simp
    refine⟨by simp only;omega,fun e=>?_⟩;simp only;by_cases hc:(Aa1 E.T (s.at q.toNat).fr y).locals=(s.at q.toNat).fr.locals∧(Aa1 E.T (s.at q.toNat).fr y).stack=(s.at q.toNat).fr.stack
    ·rw[decide_eq_true hc.1,decide_eq_true hc.2]at e;have e':a=true∧(s.at q.toNat).aim=false:=by simpa using e
     rw[e'.1,e'.2]
     simp
     omega
    ·have:=c2 hc;omega
theorem Aa8.imp {E:Zx}{s t:Z8}{A R:Int→Zt→Bool→Prop} (h:Aa8 E s t A) (hR:∀ q y a,A q y a↔R q y a):Aa8 E s t R :=
 ⟨h.ok,h.len,h.fine,h.up,h.aim,h.same,fun e q y a hr=>h.told e q y a ((hR q y a).2 hr),fun i hi=>(h.on i hi).imp id fun ⟨q,y,a,h1,h2⟩=>⟨q,y,a,(hR _ _ _).1 h1,h2⟩,fun i hi=>(h.why i hi).imp id fun ⟨q,y,h1,h2⟩=>⟨q,y,(hR _ _ _).1 h1,h2⟩,h.nu⟩
theorem Gj {E:Zx} (g:E.Good) {x:Zt} (hx:E.I x) {h:Rd.Hnd} (hh:h∈E.hs) (h1:¬ E.hi<1):E.I (Aat x h) :=
 ⟨hx.lo,by show ((1:Nat):Int)≤E.hi;omega,hx.tl,fun t ht=>by rw[List.mem_singleton.1 ht];exact⟨(g.hnd h hh).2.2.2,fun h=>by simp at h⟩⟩
theorem Du {E:Zx} (g:E.Good) {x:Zt} (hx:E.I x) (p:Nat):∀ (l:List Rd.Hnd),(∀ h∈l,h∈E.hs)→∀ {s:Z8},Ab5 E s→s.sp.length=E.n →
  Aa8 E s (Aap E.T E.hi (p:Int) x.locals l s).1 (fun q y a=>∃ h∈l,Aao h (p:Int)=true∧q=h.target∧y=Aat x h∧a=true) ∧
  ((Aap E.T E.hi (p:Int) x.locals l s).2=false→(Aap E.T E.hi (p:Int) x.locals l s).1.fine=false)∧((Aap E.T E.hi (p:Int) x.locals l s).2=true→∀ h∈l,Aao h (p:Int)=true→¬ E.hi<1)
 | [],_,s,h0,_=>⟨.nil h0 (by rintro q y a ⟨h,hh,_⟩;simp at hh),fun h=>(by cases h),fun _ h hh=>(by simp at hh)⟩
 | h::r,hm,s,h0,hn=>by
  unfold Aap;by_cases hc:Aao h (p:Int)=true
  ·rw[if_pos hc];by_cases h1:E.hi<1
   ·rw[if_pos h1];refine⟨Aa8.bad (A:=fun _ _ _=>False) (.nil h0 (fun _ _ _ h=>h)) (fun _ _ _ h=>h.elim),fun _=>rfl,fun e=>by cases e⟩
   ·rw[if_neg h1];have hh:=hm h (by simp);have hg:=g.hnd h hh;have c1:=Eh g h0 hn (Gj g hx hh h1) hg.1 hg.2.1 true;obtain⟨c2,e1,e2⟩:=Du g hx p r (fun z hz=>hm z (by simp[hz])) c1.ok (c1.len.trans hn);refine⟨c1.trans g h0 c2 ?_ (fun q y a=>?_),e1,fun e z hz hzc=>?_⟩
    ·rintro q y a ⟨_,rfl,_⟩;exact(Gj g hx hh h1).arg
    ·constructor
     ·rintro ⟨k,hk,hr⟩;rcases List.mem_cons.1 hk with rfl|hk
      ·exact .inl hr.2
      ·exact .inr ⟨k,hk,hr⟩
     ·rintro (hr|⟨k,hk,hr⟩)
      ·exact⟨h,by simp,hc,hr⟩
      ·exact⟨k,by simp[hk],hr⟩
    ·exact h1
  ·rw[if_neg hc];obtain⟨c2,e1,e2⟩:=Du g hx p r (fun z hz=>hm z (by simp[hz])) h0 hn;refine⟨c2.imp (fun q y a=>?_),e1,fun e z hz hzc=>?_⟩
   ·constructor
    ·rintro ⟨k,hk,hr⟩;exact⟨k,by simp[hk],hr⟩
    ·rintro ⟨k,hk,hr⟩;rcases List.mem_cons.1 hk with rfl|hk
     ·exact absurd hr.1 hc
     ·exact⟨k,hk,hr⟩
   ·rcases List.mem_cons.1 hz with rfl|hz
    ·exact absurd hzc hc
    ·exact e2 e z hz hzc
theorem If {E:Zx} (g:E.Good) {p:Nat} (hp:p∈E.ps) {s:Z8} (h0:Ab5 E s) (hn:s.sp.length=E.n) (hon:(s.at p).on=true) :
  Aa8 E s (Abm E p s) (Abj E p (s.at p).fr)∧((Abm E p s).fine=true→(∃ y,E.rl p (s.at p).fr=some y)∧∀ q y a,Abj E p (s.at p).fr q y a→0≤q∧q<(E.n:Int)∧(y.stack.length:Int)≤E.hi):=by
 have hx:=(h0 p).1 hon;unfold Abm;generalize (s.at p).fr=x at *;obtain⟨hH,e1,e2⟩:=Du g hx p E.hs (fun h hh=>hh) h0 hn;have hHA:∀ q y a,(∃ h∈E.hs,Aao h (p:Int)=true∧q=h.target∧y=Aat x h∧a=true)→Aay E.T y:=by
  rintro q y a ⟨h,hh,hc,rfl,rfl,rfl⟩;have:=Ev g hp hx (.hnd h hh hc);exact⟨fun t ht=>(this.2.1 t ht).1,fun t ht=>(this.2.2 t ht).1⟩
 have hHG:∀ q y a,(∃ h∈E.hs,Aao h (p:Int)=true∧q=h.target∧y=Aat x h∧a=true)→Abj E p x q y a:=by
  rintro q y a ⟨h,hh,hc,rfl,rfl,rfl⟩;exact .hnd h hh hc
 generalize Aap E.T E.hi (p:Int) x.locals E.hs s=H at *;obtain⟨t,b⟩:=H;simp only at hH e1 e2 ⊢;cases b with
 | false =>
  rw[if_pos rfl];have ef:=e1 rfl;refine⟨⟨hH.ok,hH.len,hH.fine,hH.up,hH.aim,hH.same,fun e=>(by rw[ef]at e;cases e),fun i hi=>(hH.on i hi).imp id fun ⟨q,y,a,h1,h2⟩=>⟨q,y,a,hHG _ _ _ h1,h2⟩,fun i hi=>(hH.why i hi).imp id fun ⟨q,y,h1,h2⟩=>⟨q,y,hHG _ _ _ h1,h2⟩,hH.nu⟩,fun e=>by rw[ef]at e;cases e⟩
 | true =>
  rw[if_neg (by simp)];have hcov:=e2 rfl;have nt:t.sp.length=E.n:=hH.len.trans hn;unfold Adw;cases hr:E.rl p x with
  | none=>exact⟨hH.bad hHG,fun e=>by cases e⟩
  | some y =>
   have iy:=g.rl p hp x y hx hr;simp only;have h2:Aa8 E s (if Aad (E.op p)=true then Aa5 E.T (E.ar p) y true t else t)
     (fun q z a=>(∃ h∈E.hs,Aao h (p:Int)=true∧q=h.target∧z=Aat x h∧a=true)∨(Aad (E.op p)=true∧q=E.ar p∧z=y∧a=true)):=by
    split
    ·next hj =>
     obtain⟨t1,t2,_⟩:=g.tgt p hp hj;exact hH.trans g h0 (Eh g hH.ok nt iy t1 t2 true) hHA (fun q z a=>by simp[hj])
    ·next hj=>exact hH.imp (fun q z a=>by simp[hj])
   have h2A:∀ q z a,((∃ h∈E.hs,Aao h (p:Int)=true∧q=h.target∧z=Aat x h∧a=true)∨(Aad (E.op p)=true∧q=E.ar p∧z=y∧a=true))→Aay E.T z:=by
    rintro q z a (hh|⟨_,_,rfl,_⟩)
    ·exact hHA q z a hh
    ·exact iy.arg
   have h2G:∀ q z a,((∃ h∈E.hs,Aao h (p:Int)=true∧q=h.target∧z=Aat x h∧a=true)∨(Aad (E.op p)=true∧q=E.ar p∧z=y∧a=true))→Abj E p x q z a:=by
    rintro q z a (hh|⟨hj,rfl,rfl,rfl⟩)
    ·exact hHG q z a hh
    ·exact .jmp _ hr hj
   have hin:∀ q z a,((∃ h∈E.hs,Aao h (p:Int)=true∧q=h.target∧z=Aat x h∧a=true)∨(Aad (E.op p)=true∧q=E.ar p∧z=y∧a=true))→0≤q∧q<(E.n:Int)∧(z.stack.length:Int)≤E.hi:=by
    rintro q z a (⟨h,hh,hc,rfl,rfl,rfl⟩|⟨hj,rfl,rfl,rfl⟩)
    ·have:=g.hnd h hh;exact⟨this.1,this.2.1,(Gj g hx hh (hcov h hh hc)).hi⟩
    ·obtain⟨t1,t2,_⟩:=g.tgt p hp hj;exact⟨t1,t2,iy.hi⟩
   by_cases hg:Abv (E.op p)=false
   ·rw[if_pos hg];have hiff:∀ q z a,((∃ h∈E.hs,Aao h (p:Int)=true∧q=h.target∧z=Aat x h∧a=true)∨(Aad (E.op p)=true∧q=E.ar p∧z=y∧a=true))↔Abj E p x q z a:=fun q z a=>by
     refine⟨h2G q z a,fun h=>?_⟩;cases h using Abj.el with
     | hnd h hh hc=>exact .inl ⟨h,hh,hc,rfl,rfl,rfl⟩
     | jmp z h1 h2=>rw[hr]at h1;cases h1;exact .inr ⟨h2,rfl,rfl,rfl⟩
     | nxt z h1 h2=>rw[hg]at h2;cases h2
    exact⟨h2.imp hiff,fun _=>⟨⟨y,rfl⟩,fun q z a h=>hin q z a ((hiff q z a).2 h)⟩⟩
   ·rw[if_neg hg];have hg':Abv (E.op p)=true:=by simpa using hg
    by_cases hnx:(E.n:Int)≤E.nx p
    ·rw[if_pos hnx];exact⟨h2.bad h2G,fun e=>by cases e⟩
    ·rw[if_neg hnx];have hnx0:0≤E.nx p:=by unfold Zx.nx;omega
     have hiff:∀ q z a,Abj E p x q z a↔((∃ h∈E.hs,Aao h (p:Int)=true∧q=h.target∧z=Aat x h∧a=true)∨(Aad (E.op p)=true∧q=E.ar p∧z=y∧a=true))∨(q=E.nx p∧z=y∧a=false):=fun q z a=>by
      constructor
      ·intro h;cases h using Abj.el with
       | hnd h hh hc=>exact .inl (.inl ⟨h,hh,hc,rfl,rfl,rfl⟩)
       | jmp z h1 h2=>rw[hr]at h1;cases h1;exact .inl (.inr ⟨h2,rfl,rfl,rfl⟩)
       | nxt z h1 h2=>rw[hr]at h1;cases h1;exact .inr ⟨rfl,rfl,rfl⟩
      ·rintro (h|⟨rfl,rfl,rfl⟩)
       ·exact h2G q z a h
       ·exact .nxt _ hr hg'
     refine⟨h2.trans g h0 (Eh g h2.ok (h2.len.trans hn) iy hnx0 (by omega) false) h2A hiff,fun _=>⟨⟨y,rfl⟩,fun q z a h=>?_⟩⟩;rcases(hiff q z a).1 h with h | ⟨rfl,rfl,rfl⟩
     ·exact hin q z a h
     ·exact⟨hnx0,by omega,iy.hi⟩
def Ab0 (E:Zx) (F:Nat→Option Zt) (s:Z8):Prop:=s.fine=true∧∀ q,(s.at q).on=true→∃ z,F q=some z∧Aac E.T (s.at q).fr z
theorem Ho {E:Zx} (g:E.Good) {F:Nat→Option Zt} (hF:∀ p x,F p=some x→E.I x) {s:Z8} (h:Ab5 E s) (hn:s.sp.length=E.n) (hu:Ab0 E F s) {y:Zt} (hy:E.I y) {q:Int} (h0:0≤q) (h1:q<(E.n:Int)) (a:Bool) {z:Zt} (hz:F q.toNat=some z) (hl:Aac E.T y z):Ab0 E F (Aa5 E.T q y a s):=by
 have hq:q.toNat<s.sp.length:=by omega
 have key:∀ (p:Acm) (c:Bool),Abg E.T (s.at q.toNat) y a=(p,c,true)→Aac E.T p.fr z→Ab0 E F (Aa5 E.T q y a s):=by
  intro p c e hp;have et:Aa5 E.T q y a s=⟨s.sp.set q.toNat p,s.ch || c,s.fine&&true⟩:=by unfold Aa5;rw[e]
  rw[et];refine⟨by simpa using hu.1,fun i hi=>?_⟩;rw[Lu s.sp _ _ hq p i]at hi ⊢
  split at hi
  ·next e=>subst e;rw[if_pos rfl];exact⟨z,hz,hp⟩
  ·next e=>rw[if_neg e];exact hu.2 i hi
 cases hon:(s.at q.toNat).on with
 | false=>exact key ⟨true,a,y⟩ true (by unfold Abg;rw[if_pos hon]) hl
 | true =>
  obtain⟨z',hz',hl'⟩:=hu.2 _ hon;rw[hz]at hz';cases hz';have hx:=(h q.toNat).1 hon;have e1:(s.at q.toNat).fr.locals.length=y.locals.length:=hl'.lo.len.trans hl.lo.len.symm;have e2:(s.at q.toNat).fr.stack.length=y.stack.length:=hl'.st.len.trans hl.st.len.symm;exact key ⟨true,(s.at q.toNat).aim || a,Aa1 E.T (s.at q.toNat).fr y⟩ _ (by unfold Abg;rw[if_neg (by simp[hon]),if_neg (by simp[e2])]) ((He g.T hx.arg hy.arg e1 e2).2.2 z (hF _ _ hz).arg hl' hl)
theorem Qw {E:Zx} (g:E.Good) {F:Nat→Option Zt} (hF:Ac0 E F) {p:Nat} (hp:p∈E.ps) {s:Z8} (h0:Ab5 E s) (hn:s.sp.length=E.n) (hon:(s.at p).on=true) (hu:Ab0 E F s):Ab0 E F (Abm E p s):=by
 have hx:=(h0 p).1 hon;obtain⟨z,hz,hl⟩:=hu.2 p hon;unfold Abm;generalize (s.at p).fr=x at *;have sz:=hF.sat p hp z hz;have iz:=hF.inv p z hz;have key:∀ {q u a},Abj E p x q u a→0≤q∧q<(E.n:Int)∧(u.stack.length:Int)≤E.hi∧∃ v,F q.toNat=some v∧Aac E.T u v:=by
  intro q u a hg;obtain⟨u',k1,k2⟩:=Mu g hp hx iz hl hg sz.rl;obtain⟨a1,a2,a3',⟨v,a3,a4⟩,_⟩:=sz.go q u' a k1;have ou:=Ev g hp hx hg;have ou':=Ev g hp iz k1;exact⟨a1,a2,by rw[k2.st.len];exact a3',v,a3,k2.trans g a4 ⟨fun t ht=>(ou.2.1 t ht).1,fun t ht=>(ou.2.2 t ht).1⟩ ⟨fun t ht=>(ou'.2.1 t ht).1,fun t ht=>(ou'.2.2 t ht).1⟩ (hF.inv _ _ a3).arg⟩
 have hH:∀ (l:List Rd.Hnd),(∀ h∈l,h∈E.hs)→∀ {s:Z8},Ab5 E s→s.sp.length=E.n→Ab0 E F s→(Aap E.T E.hi (p:Int) x.locals l s).2=true∧Ab0 E F (Aap E.T E.hi (p:Int) x.locals l s).1:=by
  intro l
  induction l with
  | nil=>intro _ s _ _ hu;exact⟨rfl,hu⟩
  | cons h r ih =>
   intro hm s h0 hn hu;unfold Aap;by_cases hc:Aao h (p:Int)=true
   ·rw[if_pos hc];have hh:=hm h (by simp);have hg:=g.hnd h hh;obtain⟨_,_,k3,v,k4,k5⟩:=key (.hnd h hh hc);have h1:¬ E.hi<1:=by
     have:((1:Nat):Int)≤E.hi:=k3;omega
    rw[if_neg h1];have ci:=Gj g hx hh h1;have c1:=Eh g h0 hn ci hg.1 hg.2.1 true;exact ih (fun z hz=>hm z (by simp[hz])) c1.ok (c1.len.trans hn) (Ho g hF.inv h0 hn hu ci hg.1 hg.2.1 true k4 k5)
   ·rw[if_neg hc];exact ih (fun z hz=>hm z (by simp[hz])) h0 hn hu
 obtain⟨b1,u1⟩:=hH E.hs (fun h hh=>hh) h0 hn hu;obtain⟨cH,_,_⟩:=Du g hx p E.hs (fun h hh=>hh) h0 hn;generalize Aap E.T E.hi (p:Int) x.locals E.hs s=H at *;obtain⟨t,b⟩:=H;simp only at b1 u1 cH ⊢;rw[if_neg (by simp[b1])];obtain⟨zr,hzr⟩:=sz.rl;obtain⟨y,hr,_⟩:=g.mono p hp x z zr hx iz hl hzr;have iy:=g.rl p hp x y hx hr;unfold Adw;rw[hr];simp only;have nt:t.sp.length=E.n:=cH.len.trans hn;have h2:Ab5 E (if Aad (E.op p)=true then Aa5 E.T (E.ar p) y true t else t)∧(if Aad (E.op p)=true then Aa5 E.T (E.ar p) y true t else t).sp.length=E.n∧Ab0 E F (if Aad (E.op p)=true then Aa5 E.T (E.ar p) y true t else t):=by
  split
  ·next hj =>
   obtain⟨k1,k2,_,v,k4,k5⟩:=key (.jmp y hr hj);have c:=Eh g cH.ok nt iy k1 k2 true;exact⟨c.ok,c.len.trans nt,Ho g hF.inv cH.ok nt u1 iy k1 k2 true k4 k5⟩
  ·exact⟨cH.ok,nt,u1⟩
 by_cases hg:Abv (E.op p)=false
 ·rw[if_pos hg];exact h2.2.2
 ·rw[if_neg hg];obtain⟨k1,k2,_,v,k4,k5⟩:=key (.nxt y hr (by simpa using hg));rw[if_neg (by omega)];exact Ho g hF.inv h2.1 h2.2.1 h2.2.2 iy k1 k2 false k4 k5
structure Aek (E:Zx) (s:Z8):Prop where
 ok:Ab5 E s
 len:s.sp.length=E.n
 pl:∀ q,(s.at q).on=true→q∈E.ps
 why:∀ q,(s.at q).aim=true→∃ p∈E.ps,(s.at p).on=true∧Aey E p q
 x0:∃ y,s.F 0=some y∧Aac E.T E.x0 y
def Adx (E:Zx) (s:Z8) (p:Nat):Prop:=(∃ y,E.rl p (s.at p).fr=some y)∧∀ q y a,Abj E p (s.at p).fr q y a→0≤q∧q<(E.n:Int)∧(y.stack.length:Int)≤E.hi∧(∃ z,s.F q.toNat=some z∧Aac E.T y z)∧(a=true→(s.at q.toNat).aim=true)
theorem To {E:Zx} (g:E.Good) {p:Nat} (hp:p∈E.ps) {s:Z8} (h:Aek E s) (hon:(s.at p).on=true) (hf:(Abm E p s).fine=true):Aek E (Abm E p s)∧((Abm E p s).ch=false→Adx E (Abm E p s) p):=by
 obtain⟨c,d⟩:=If g hp h.ok h.len hon;obtain⟨d1,d2⟩:=d hf;refine⟨⟨c.ok,c.len.trans h.len,fun q hq=>?_,fun q hq=>?_,?_⟩,fun hc=>?_⟩
 ·rcases c.on q hq with h1|⟨q',y,a,hg,rfl⟩
  ·exact h.pl q h1
  ·exact Qq g hp hg (d2 _ _ _ hg).2.1
 ·rcases c.why q hq with h1|⟨q',y,hg,rfl⟩
  ·obtain⟨r,r1,r2,r3⟩:=h.why q h1;exact⟨r,r1,(c.up r r2).1,r3⟩
  ·exact⟨p,hp,(c.up p hon).1,Ov hg⟩
 ·obtain⟨y,hy,hl⟩:=h.x0;obtain⟨e1,rfl⟩:=Cn.1 hy;obtain⟨k1,k2⟩:=c.up 0 e1;exact⟨_,Cn.2 ⟨k1,rfl⟩,hl.trans g k2 g.x0.arg ((h.ok 0).1 e1).arg ((c.ok 0).1 k1).arg⟩
 ·have es:=(c.same hc).2;have eat:∀ i,(Abm E p s).at i=s.at i:=fun i=>by unfold Z8.at;rw[es]
  unfold Adx;rw[eat p];exact⟨d1,fun q y a hg=>by obtain⟨m1,m2,m3⟩:=d2 q y a hg;obtain⟨n1,n2⟩:=c.told hf q y a hg;exact⟨m1,m2,m3,n1,n2⟩⟩
theorem Sz {E:Zx}{s t:Z8} (h:t.sp=s.sp) {p:Nat} (hs:Adx E s p):Adx E t p:=by
 have eat:∀ i,t.at i=s.at i:=fun i=>by unfold Z8.at;rw[h]
 have eF:∀ i,t.F i=s.F i:=fun i=>by unfold Z8.F;rw[eat]
 unfold Adx;simp only[eat,eF];exact hs
theorem Ix {E:Zx} (g:E.Good):∀ (l:List Nat),(∀ p∈l,p∈E.ps)→∀ {s t:Z8},Aek E s→Ab9 E l s=some t →
  Aek E t∧Acs E t≤Acs E s∧(s.ch=false→t.ch=true→Acs E t<Acs E s)∧(t.ch=false→s.ch=false∧t.sp=s.sp∧∀ p∈l,(t.at p).on=true→Adx E t p)
 | [],_,s,t,h,e=>by
  cases e;exact⟨h,Nat.le_refl _,fun h1 h2=>(by rw[h1]at h2;cases h2),fun h1=>⟨h1,rfl,fun p hp=>(by simp at hp)⟩⟩
 | p::r,hl,s,t,h,e=>by
  have hp:=hl p (by simp);unfold Ab9 at e;by_cases hon:(s.at p).on=true
  ·rw[if_pos hon]at e;by_cases hf:(Abm E p s).fine=false
   ·rw[if_pos hf]at e;cases e
   ·rw[if_neg hf]at e;obtain⟨j1,j2⟩:=To g hp h hon (by simpa using hf);obtain⟨c,_⟩:=If g hp h.ok h.len hon;obtain⟨i1,i2,i3,i4⟩:=Ix g r (fun z hz=>hl z (by simp[hz])) j1 e;have cn:=c.nu;refine⟨i1,by omega,fun h1 h2=>?_,fun h1=>?_⟩
    ·cases e1:(Abm E p s).ch with
     | true=>have:=cn.2 h1 e1;omega
     | false=>have:=i3 e1 h2;omega
    ·obtain⟨k1,k2,k3⟩:=i4 h1;obtain⟨m1,m2⟩:=c.same k1;refine⟨m1,k2.trans m2,fun z hz hzo=>?_⟩;rcases List.mem_cons.1 hz with rfl|hz
     ·exact Sz k2 (j2 k1)
     ·exact k3 z hz hzo
  ·rw[if_neg hon]at e;obtain⟨i1,i2,i3,i4⟩:=Ix g r (fun z hz=>hl z (by simp[hz])) h e;refine⟨i1,i2,i3,fun h1=>?_⟩;obtain⟨k1,k2,k3⟩:=i4 h1;refine⟨k1,k2,fun z hz hzo=>?_⟩;rcases List.mem_cons.1 hz with rfl | hz
   ·have:t.at z=s.at z:=by unfold Z8.at;rw[k2]
    rw[this]at hzo;exact absurd hzo hon
   ·exact k3 z hz hzo
theorem Lp {E:Zx} (g:E.Good) {F:Nat→Option Zt} (hF:Ac0 E F):∀ (l:List Nat),(∀ p∈l,p∈E.ps)→∀ {s:Z8},Aek E s→Ab0 E F s→∃ t,Ab9 E l s=some t∧Ab0 E F t
 | [],_,s,_,hu=>⟨s,rfl,hu⟩
 | p::r,hl,s,h,hu=>by
  have hp:=hl p (by simp);unfold Ab9;by_cases hon:(s.at p).on=true
  ·rw[if_pos hon];have u1:=Qw g hF hp h.ok h.len hon hu;rw[if_neg (by simp[u1.1])];exact Lp g hF r (fun z hz=>hl z (by simp[hz])) (To g hp h hon u1.1).1 u1
  ·rw[if_neg hon];exact Lp g hF r (fun z hz=>hl z (by simp[hz])) h hu
theorem Zc {E:Zx}{s:Z8} (h:Aek E s):Aek E s.calm:=⟨h.ok,h.len,h.pl,h.why,h.x0⟩
theorem Gu {E:Zx} (g:E.Good):∀ (k:Nat) {s:Z8},Aek E s→Acs E s<k →
  (∀ t,Ac3 E k s=some t→Aek E t∧∀ p∈E.ps,(t.at p).on=true→Adx E t p)∧(∀ F,Ac0 E F→Ab0 E F s→∃ t,Ac3 E k s=some t∧Ab0 E F t)
 | 0,s,_,h=>absurd h (by omega)
 | k+1,s,h,hk=>by
  unfold Ac3;have hc:=Zc h
  constructor
  ·intro t e;cases er:Ab9 E E.ps s.calm with
   | none=>rw[er]at e;cases e
   | some u =>
    rw[er]at e;simp only at e;obtain⟨i1,i2,i3,i4⟩:=Ix g E.ps (fun _ h=>h) hc er;by_cases hch:u.ch=false
    ·rw[if_pos hch]at e;cases e;exact⟨i1,(i4 hch).2.2⟩
    ·rw[if_neg hch]at e;have:Acs E u<Acs E s:=i3 rfl (by simpa using hch);exact(Gu g k i1 (by omega)).1 t e
  ·intro F hF hu;obtain⟨u,er,uu⟩:=Lp g hF E.ps (fun _ h=>h) hc (show Ab0 E F s.calm from hu);rw[er];simp only;obtain⟨i1,i2,i3,i4⟩:=Ix g E.ps (fun _ h=>h) hc er;by_cases hch:u.ch=false
   ·rw[if_pos hch];exact⟨u,rfl,uu⟩
   ·rw[if_neg hch];have:Acs E u<Acs E s:=i3 rfl (by simpa using hch);exact(Gu g k i1 (by omega)).2 F hF uu
def Abs (E:Zx):Z8:=⟨List.replicate E.n Ady,false,true⟩
theorem Gk (E:Zx) (q:Nat):(Abs E).at q=Ady:=by
 unfold Abs Z8.at;rw[List.getD_eq_getElem?_getD,List.getElem?_replicate]
 split<;>rfl
theorem Hw (E:Zx):Ab5 E (Abs E):=fun q=>by rw[Gk];exact⟨fun h=>(by cases h),fun h=>(by cases h)⟩
theorem Wx (E:Zx):Acs E (Abs E)=E.n*(Acv E.T E.lo E.hi+1):=by
 unfold Acs Abs;have:∀ n:Nat,((List.replicate n Ady).map (Acf E)).sum=n*(Acv E.T E.lo E.hi+1):=by
  intro n
  induction n with
  | zero=>simp
  | succ k ih=>rw[List.replicate_succ,List.map_cons,List.sum_cons,ih,Nat.succ_mul];simp[Acf,Ady];omega
 exact this _
def Acg (E:Zx) (most:Nat):Option Z8:=Ac3 E most (Aa5 E.T 0 E.x0 false (Abs E))
theorem Fd {E:Zx} (g:E.Good) {most:Nat} (hm:E.n*(Acv E.T E.lo E.hi+1)<most) :
  (∀ t,Acg E most=some t→t.sp.length=E.n∧Ab5 E t∧Ac0 E t.F∧(∀ q,t.F q≠none→q∈E.ps)∧(∀ q,(t.at q).aim=true↔∃ p∈E.ps,t.F p≠none∧Aey E p q)) ∧
  (∀ F,Ac0 E F→∃ t,Acg E most=some t∧∀ p x,t.F p=some x→∃ y,F p=some y∧Aac E.T x y):=by
 have hz:0<E.n:=g.lt 0 g.zero;have il:(Abs E).sp.length=E.n:=by simp[Abs]
 have c:=Eh g (Hw E) il g.x0 (q:=0) (by omega) (by omega) false;have hfine:(Aa5 E.T 0 E.x0 false (Abs E)).fine=true:=by
  unfold Aa5 Abg;rw[Gk,if_pos (show Ady.on=false from rfl)];rfl
 have J0:Aek E (Aa5 E.T 0 E.x0 false (Abs E)):=by
  refine⟨c.ok,c.len.trans il,fun q hq=>?_,fun q hq=>?_,?_⟩
  ·rcases c.on q hq with h|⟨q',y,a,⟨rfl,_,_⟩,rfl⟩
   ·rw[Gk]at h;cases h
   ·exact g.zero
  ·rcases c.why q hq with h|⟨q',y,⟨_,_,h⟩,_⟩
   ·rw[Gk]at h;cases h
   ·cases h
  ·exact(c.told hfine 0 E.x0 false ⟨rfl,rfl,rfl⟩).1
 have hnu:Acs E (Aa5 E.T 0 E.x0 false (Abs E))<most:=by
  have h1:=c.nu.1;rw[Wx]at h1;omega
 obtain⟨r1,r2⟩:=Gu g most J0 hnu;refine⟨fun t ht=>?_,fun F hF=>?_⟩
 ·obtain⟨j,sh⟩:=r1 t ht;refine⟨j.len,j.ok,⟨fun p x hx=>?_,j.x0,fun p hp x hx=>?_⟩,fun q hq=>?_,fun q=>⟨fun hq=>?_,?_⟩⟩
  ·obtain⟨e1,rfl⟩:=Cn.1 hx;exact(j.ok p).1 e1
  ·obtain⟨e1,rfl⟩:=Cn.1 hx;obtain⟨s1,s2⟩:=sh p hp e1;exact⟨s1,fun q y a hg=>by obtain⟨t1,t2,t3,t4,_⟩:=s2 q y a hg;exact⟨t1,t2,t3,t4,fun _=>trivial⟩⟩
  ·cases e:t.F q with
   | none=>exact absurd e hq
   | some x=>exact j.pl q (Cn.1 e).1
  ·obtain⟨p,h1,h2,h3⟩:=j.why q hq;exact⟨p,h1,by rw[Cn.2 ⟨h2,rfl⟩];simp,h3⟩
  ·rintro ⟨p,h1,h2,h3⟩;have e1:(t.at p).on=true:=by
    cases e:t.F p with
    | none=>exact absurd e h2
    | some x=>exact(Cn.1 e).1
   obtain⟨⟨y,hy⟩,s2⟩:=sh p h1 e1;rcases h3 with ⟨h,hm,hc,rfl⟩|⟨hj,rfl⟩
   ·exact(s2 _ _ _ (.hnd h hm hc)).2.2.2.2 rfl
   ·exact(s2 _ _ _ (.jmp y hy hj)).2.2.2.2 rfl
 ·obtain⟨y,hy,hl⟩:=hF.x0;have u0:Ab0 E F (Abs E):=⟨rfl,fun q hq=>by rw[Gk]at hq;cases hq⟩;have u1:=Ho g hF.inv (Hw E) il u0 g.x0 (q:=0) (by omega) (by omega) false hy hl;obtain⟨t,e,ut⟩:=r2 F hF u1;exact⟨t,e,fun p x hx=>by obtain⟨e1,rfl⟩:=Cn.1 hx;exact ut.2 p e1⟩
theorem Rl {E:Zx} (g:E.Good) {bh:Cd.Ins→Zt→Option Zt}{L:List Cd.Ins} (hL:∀ i∈L,∃ p,Adf E bh i p) (hA:∀ p∈E.ps,∃ i∈L,i.place=(p:Int)) {most:Nat} (hm:E.n*(Acv E.T E.lo E.hi+1)<most) :
  ((Aan E bh L).hop=true↔Acg E most=none)∧∀ t,Acg E most=some t→(Aan E bh L).hop=false∧∀ q,(Aan E bh L).F q=t.F q∧((Aan E bh L).at q).wa=(t.at q).aim:=by
 obtain⟨_,_,p3,p4⟩:=Fo g hL hA;obtain⟨q1,q2⟩:=Fd g hm;have two:∀ t,Acg E most=some t→(Aan E bh L).hop=false∧∀ q,(Aan E bh L).F q=t.F q∧((Aan E bh L).at q).wa=(t.at q).aim:=by
  intro t ht;obtain⟨_,_,s1,s2,s3⟩:=q1 t ht;obtain⟨h1,h2⟩:=p4 _ s1;obtain⟨r1,r2,r3⟩:=p3 h1;obtain⟨t',ht',h3⟩:=q2 _ r1;rw[ht]at ht';cases ht';have eF:=Sj g r1 s1 h2 h3;refine⟨h1,fun q=>⟨eF q,?_⟩⟩;have hiff:((Aan E bh L).at q).wa=true↔(t.at q).aim=true:=by
   rw[r3 q,s3 q];simp only[eF]
  cases hw:((Aan E bh L).at q).wa with
  | true=>exact(hiff.1 hw).symm
  | false =>
   cases ha:(t.at q).aim with
   | false=>rfl
   | true=>rw[hiff.2 ha]at hw;cases hw
 refine⟨⟨fun h=>?_,fun h=>?_⟩,two⟩
 ·cases e:Acg E most with
  | none=>rfl
  | some t=>rw[(two t e).1]at h;cases h
 ·cases e:(Aan E bh L).hop with
  | true=>rfl
  | false =>
   obtain⟨t,ht,_⟩:=q2 _ (p3 e).1;rw[h]at ht;cases ht
def Aa4 (cs:List Rd.Cls) (ms:List Rd.Mth) (m:Rd.Mth):Zx :=
 ⟨Tr.tree cs,m.locals.toNat,m.stack,Ae2 m.code,m.code.length,Cd.places m.code,m.handlers,Aca cs ms m,fun p=>m.code.getD p 0,fun p=>Cd.atI m.code ((p:Int)+1),Aco m⟩
theorem Jl (c:List Int):∀ (k p0:Nat),c.length≤p0+k→∀ q∈Cd.starts c k p0,q+Cd.wd (c.getD q 0)<c.length→q+Cd.wd (c.getD q 0)∈Cd.starts c k p0
 | 0,p0,_,q,hq,_=>by simp[Cd.starts]at hq
 | k+1,p0,hk,q,hq,hl=>by
  unfold Cd.starts at hq ⊢;by_cases hp:p0<c.length
  ·rw[if_pos hp]at hq ⊢;have hw:=Cd.wd_bd (c.getD p0 0);rcases List.mem_cons.1 hq with rfl | hq
   ·refine List.mem_cons_of_mem _ ?_;obtain⟨j,rfl⟩:∃ j,k=j+1:=⟨k-1,by omega⟩;unfold Cd.starts;rw[if_pos hl];exact List.mem_cons_self ..
   ·exact List.mem_cons_of_mem _ (Jl c k _ (by omega) q hq hl)
  ·rw[if_neg hp]at hq;simp at hq
theorem Pz {c:List Int}{q:Nat} (hq:q∈Cd.places c) (hl:q+Cd.wd (c.getD q 0)<c.length):q+Cd.wd (c.getD q 0)∈Cd.places c:=Jl c c.length 0 (by omega) q hq hl
theorem Mg {c:List Int}{q:Nat} (hq:q∈Cd.places c):q<c.length:=by
 have hb:Cd.begB c (q:Int)=true:=by unfold Cd.begB;rw[List.any_eq_true];exact⟨q,hq,by simp⟩
 have:=Ew hb;omega
theorem P6 {c:List Int} (h:0<c.length):0∈Cd.places c:=by
 unfold Cd.places;obtain⟨j,hj⟩:∃ j,c.length=j+1:=⟨c.length-1,by omega⟩;rw[hj];unfold Cd.starts;rw[if_pos h];exact List.mem_cons_self ..
theorem Va {cs:List Rd.Cls}{ms:List Rd.Mth} (k:Ace cs ms) {m:Rd.Mth} (hm:m∈ms) {p:Nat} (hp:p∈Cd.places m.code) {x y z:Zt} (hx:Ad7 (Tr.tree cs) m x) (hy:Ad7 (Tr.tree cs) m y) (h:Aac (Tr.tree cs) x y) (hz:Aca cs ms m p y=some z):∃ u,Aca cs ms m p x=some u∧Aac (Tr.tree cs) u z:=by
 have g:=k.mt m hm;have hn:=In g hp;unfold Aca at hz ⊢;rw[Lh]at hz ⊢;unfold Aa0 at hz ⊢;obtain⟨z1,hz1,hz2⟩:=Option.bind_eq_some_iff.1 hz;obtain⟨u,hu1,hu2⟩:=Rz (want:=Rf.all (Tr.tree cs) (Rf.given++cs) (Cd.atI m.code ((p:Int)+1)).toNat) k.ok (Xi hx) (Xi hy) (Mx k hm hn) (fun t ht=>(Cz (Il k.fl _ _ t ht)).1) h hz1;by_cases hl:(z1.stack.length:Int)≤m.stack
 ·rw[if_pos hl]at hz2;cases hz2;refine⟨u,?_,hu2⟩;rw[hu1];show (if (u.stack.length:Int)≤m.stack then some u else none)=some u
  rw[if_pos (by rw[hu2.st.len];exact hl)]
 ·rw[if_neg hl]at hz2;cases hz2
theorem Y5 {T:List Int}{c:List Int}{h:Rd.Hnd} (hb:Cd.hndBad T c h=false):Cd.begB c h.target=true∧Tr.hasB T h.cl=true:=by
 unfold Cd.hndBad at hb;simp only[Bool.or_eq_false_iff,Bool.not_eq_eq_eq_not,Bool.not_false]at hb;exact⟨hb.1.1.1.2,hb.1.2⟩
theorem Ep {cs:List Rd.Cls}{ms:List Rd.Mth} (k:Ace cs ms) {m:Rd.Mth} (hm:m∈ms) (hc:0<m.code.length):(Aa4 cs ms m).Good:=by
 have g:=k.mt m hm;refine⟨k.ok,Yb g,fun p hp x y hx h=>Y9 k hm hp hx h,fun p hp x y z hx hy h hz=>Va k hm hp hx hy h hz,fun p hp hj=>?_,fun p hp hn=>?_,fun h hh=>?_,P6 hc,fun p hp=>Mg hp⟩
 ·have ha:=g.arg p hp;unfold Cd.argAt at ha;rw[Ll]at ha;show 0≤Cd.atI m.code ((p:Int)+1)∧Cd.atI m.code ((p:Int)+1)<(m.code.length:Int)∧(Cd.atI m.code ((p:Int)+1)).toNat∈Cd.places m.code;have hj':Aad (m.code.getD p 0)=true:=hj;generalize m.code.getD p 0=op at *;unfold Aad at hj';have hop:op=11∨op=12∨op=13∨op=14:=by simpa using hj'
  unfold Cd.argB at ha;rw[if_neg (by omega),if_pos (by omega)]at ha;have h1:=Ew ha;have h2:=J7 ha;exact⟨by omega,by omega,h2⟩
 ·have hn':(p:Int)+(Cd.wd (m.code.getD p 0):Int)<(m.code.length:Int):=hn;have:=Pz hp (by omega);show ((p:Int)+(Cd.wd (m.code.getD p 0):Int)).toNat∈Cd.places m.code;rw[show ((p:Int)+(Cd.wd (m.code.getD p 0):Int)).toNat=p+Cd.wd (m.code.getD p 0) by omega];exact this
 ·obtain⟨h1,h2⟩:=Y5 (g.hnd h hh);have h3:=Ew h1;have h4:=J7 h1;exact⟨by omega,(by show h.target<(m.code.length:Int);omega),h4,Ee (Hl.1 h2)⟩
theorem Yh {cs:List Rd.Cls}{ms:List Rd.Mth} (k:Ace cs ms) {m:Rd.Mth} (hm:m∈ms) {p:Nat} (hp:p∈Cd.places m.code):Adf (Aa4 cs ms m) (Aaq cs ms m) (Cd.insAt m.code p) p:=by
 have g:=k.mt m hm;obtain⟨h25,hw⟩:=El g.unread p hp;refine⟨hp,rfl,rfl,fun hj=>?_,fun x hx=>Ox k hm hp hx⟩;have hj':Aad (m.code.getD p 0)=true:=hj;have h2:Cd.wd (m.code.getD p 0)=2:=by
  generalize m.code.getD p 0=op at *;unfold Aad at hj';have hop:op=11∨op=12∨op=13∨op=14:=by simpa using hj'
  unfold Cd.wd;rw[if_pos (by omega)]
 exact(Iu hw h2).1
theorem Kt {T:List Int}{nf:Int}{ms:List Rd.Mth}{m:Rd.Mth} (g:Aen T nf ms m):Cd.readL m.code=(Cd.places m.code).map (Cd.insAt m.code):=by
 have:=g.unread;unfold Cd.readL;rw[if_neg (by omega)];rfl
theorem Gb {cs:List Rd.Cls}{ms:List Rd.Mth} (k:Ace cs ms) {m:Rd.Mth} (hm:m∈ms):(∀ i∈Cd.readL m.code,∃ p,Adf (Aa4 cs ms m) (Aaq cs ms m) i p)∧∀ p∈(Aa4 cs ms m).ps,∃ i∈Cd.readL m.code,i.place=(p:Int):=by
 rw[Kt (k.mt m hm)]
 constructor
 ·intro i hi;obtain⟨p,hp,rfl⟩:=List.mem_map.1 hi;exact⟨p,Yh k hm hp⟩
 ·intro p hp;exact⟨Cd.insAt m.code p,List.mem_map.2 ⟨p,hp,rfl⟩,rfl⟩
def Aba (cs:List Rd.Cls) (ms:List Rd.Mth) (m:Rd.Mth):Zv:=Aan (Aa4 cs ms m) (Aaq cs ms m) (Cd.readL m.code)
def Aaw (cs:List Rd.Cls) (ms:List Rd.Mth) (m:Rd.Mth):Option (List Rd.Mp):=if (Aba cs ms m).hop=true then none else some (Aav 0 (Aba cs ms m).sp)
def Rd.Mon {α:Type} (f:Rd.St→α × Rd.St):Prop:=∀ t,t.bad=true→(f t).2.bad=true
theorem Dg (s:List UInt8):Rd.Mon (Rd.nx s):=fun t h=>by unfold Rd.nx;rw[if_pos h]
theorem Gd (s:List UInt8) (a b:Int):Rd.Mon (Rd.cn s a b):=fun t h=>by
 unfold Rd.cn
 split
 ·rfl
 ·split
  ·rfl
  ·exact Dg s t h
theorem Ui (s:List UInt8):Rd.Mon (Rd.ty s):=fun t h=>Dg s _ (Dg s t h)
theorem Fz {α:Type}{f:Rd.St→α × Rd.St} (hf:Rd.Mon f):∀ (n:Nat) (t:Rd.St),t.bad=true→(Rd.rep f n t).2.bad=true
 | 0,_,h=>h
 | n+1,t,h=>hf _ (Fz hf n t h)
theorem Lg (s:List UInt8) (n:Nat):Rd.Mon (Rd.tys s n):=fun t h=>Fz (Ui s) n t h
theorem Xs (s:List UInt8):Rd.Mon (Rd.hnd s):=fun t h=>Dg s _ (Dg s _ (Dg s _ (Dg s t h)))
theorem Oj (s:List UInt8):Rd.Mon (Rd.hnds s):=fun t h=>Fz (Xs s) _ _ (Gd s 0 4 t h)
theorem Y6 (s:List UInt8) (L H:Int):Rd.Mon (Rd.mp s L H):=fun t h=>Lg s _ _ (Gd s 0 H _ (Lg s _ _ (Dg s t h)))
theorem Tb (s:List UInt8):Rd.Mon (Rd.codes s):=fun t h=>Fz (Dg s) _ _ (Gd s 1 120 t h)
theorem Ua (s:List UInt8) (t:Rd.St) (h:(Rd.codes s t).2.bad=false):0<(Rd.codes s t).1.length:=by
 unfold Rd.codes at h ⊢;simp only at h ⊢;rw[Rd.rep_len];by_cases hc:(Rd.cn s 1 120 t).2.bad=true
 ·rw[Fz (Dg s) _ _ hc]at h;cases h
 ·unfold Rd.cn at hc ⊢
  split at hc
  ·exact absurd rfl hc
  ·split at hc
   ·exact absurd rfl hc
   ·next h1 h2=>rw[if_neg h1,if_neg h2];omega
theorem Qu (s:List UInt8) (L H:Int):Rd.Mon (Rd.mps s L H):=fun t h=>Fz (Y6 s L H) _ _ (Gd s 0 64 t h)
theorem Xl (s:List UInt8):Rd.Mon (Rd.mth s):=fun t h=>by
 unfold Rd.mth;exact Qu s _ _ _ (Oj s _ (Tb s _ (Gd s 0 8 _ (Gd s 0 8 _ (Ui s _ (Lg s _ _ (Gd s 0 4 _ (Dg s _ (Dg s t h)))))))))
theorem Wq (s:List UInt8) (t:Rd.St) (h:(Rd.mth s t).2.bad=false):0<(Rd.mth s t).1.code.length:=by
 unfold Rd.mth at h ⊢;simp only at h ⊢;refine Ua s _ ?_;generalize Rd.codes s _=c at h ⊢;cases hc:c.2.bad with
 | false=>rfl
 | true=>rw[Qu s _ _ _ (Oj s _ hc)]at h;cases h
theorem Om (s:List UInt8):∀ (n:Nat) (t:Rd.St),(Rd.rep (Rd.mth s) n t).2.bad=false→∀ m∈(Rd.rep (Rd.mth s) n t).1,0<m.code.length
 | 0,_,_,m,hm=>by simp[Rd.rep]at hm
 | n+1,t,h,m,hm=>by
  unfold Rd.rep at h hm;simp only at h hm;rcases List.mem_append.1 hm with hm | hm
  ·refine Om s n t ?_ m hm;cases hc:(Rd.rep (Rd.mth s) n t).2.bad with
   | false=>rfl
   | true=>rw[Xl s _ hc]at h;cases h
  ·rw[List.mem_singleton.1 hm];exact Wq s _ h
theorem Fh (s:List UInt8) (h:(Rd.read s).2=0):∀ m∈(Rd.read s).1.methods,0<m.code.length:=by
 unfold Rd.read at h ⊢
 split
 ·simp
 ·next h1 =>
  rw[if_neg h1]at h
  split
  ·simp
  ·next h2 =>
   rw[if_neg h2]at h;simp only[Rd.fil]at h2 ⊢;refine Om s _ _ ?_;generalize (Rd.rep (Rd.mth s) _ _).2=t at *;cases hb:t.bad with
   | false=>rfl
   | true=>exact absurd (.inl hb) h2
end Go.Proofs.YtcefiamkoincoaaGreat
