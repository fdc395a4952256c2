/- a part of the proof in YtcefiamkoincoaaGreatStableProof -/
import Derived.Test.YtcefiamkoincoaaGreatPk16
set_option maxRecDepth 100000
set_option maxHeartbeats 40000000
set_option linter.unusedVariables false
set_option linter.unusedSimpArgs false
namespace Go.Proofs.YtcefiamkoincoaaGreat
open Go.RowKit
structure Ls.J (E:Ls.Env) (s:Ls.S):Prop where
 ok:E.Ok s
 len:s.sp.length=E.n
 sat:s.hop=false→∀ p∈E.ps,(s.at p).st=true→(s.at p).ri=false→(∃ y,E.rl p (s.at p).fr=some y)∧∀ q y a,Ls.Goes E p (s.at p).fr q y a→Ls.Told E s q y a
 pl:∀ q,(s.at q).st=true→q∈E.ps
 why:∀ q,(s.at q).wa=true→∃ p∈E.ps,(s.at p).st=true∧Ls.Aim E p q
 x0:s.hop=false→∃ y,s.F 0=some y∧Ls.LeF E.T E.x0 y
abbrev Ls.lk (E:Ls.Env) (bh:Cd.Ins→Ck.Fr→Option Ck.Fr) (i:Cd.Ins) (x:Ck.Fr) (s:Ls.S):Ls.S:=Ls.look E.T E.hi E.hs bh i x s
theorem Yu {E:Ls.Env} (g:E.Good) {bh:Cd.Ins→Ck.Fr→Option Ck.Fr}{i:Cd.Ins}{p:Nat} (hi:Ls.Ins E bh i p) {s:Ls.S} (h:Ls.J E s) (hr:(s.at p).ri=true):Ls.J E (Ls.lk E bh i (s.at p).fr (s.calm p)):=by
 have hp:p < s.sp.length:=by rw [h.len];exact g.lt p hi.mem
 have hst:(s.at p).st=true:=(h.ok _ (Ls.at_mem hp)).2 hr;have hx:=Cy h.ok hst;obtain ⟨c1,c2,_⟩:=Ls.calm_le (K:=0) h.ok hp hr;have hn:(s.calm p).sp.length=E.n:=c2.trans h.len;obtain ⟨c,cr⟩:=Ry g hi hx c1 hn;generalize hs':Ls.lk E bh i (s.at p).fr (s.calm p)=s' at *;change Ls.look E.T E.hi E.hs bh i (s.at p).fr (s.calm p)=s' at hs';rw [hs'] at c cr;have cst:∀ j,((s.calm p).at j).st=(s.at j).st:=fun j=>by rw [Fn s hp];split <;> rename_i e <;> simp [e]
 have cfr:∀ j,((s.calm p).at j).fr=(s.at j).fr:=fun j=>by rw [Fn s hp];split <;> rename_i e <;> simp [e]
 have cwa:∀ j,((s.calm p).at j).wa=(s.at j).wa:=fun j=>by rw [Fn s hp];split <;> rename_i e <;> simp [e]
 have cF:∀ j,(s.calm p).F j=s.F j:=fun j=>by unfold Ls.S.F;rw [cst,cfr]
 have ps':(s'.at p).st=true:=(c.up.st p (by rw [cst];exact hst)).1;refine ⟨c.up.ok,c.up.len.trans hn,fun hh r hrp hrs hrr=>?_,fun q hq=>?_,fun q hq=>?_,fun hh=>?_⟩
 ·obtain ⟨u1,u2,u3⟩:=c.up.ri r hrr;rw [u2,cfr];by_cases e:r=p
  ·subst e;exact ⟨cr hh,fun q y a hg=>c.told hh q y a hg⟩
  ·have hop:(s.calm p).hop=false:=by
    cases e:(s.calm p).hop with
    | false=>rfl
    | true=>rw [c.up.hop e] at hh;cases hh
   have rr:(s.at r).ri=false:=by rw [Fn s hp,if_neg e] at u1;exact u1
   have rs:(s.at r).st=true:=by rw [← cst,← u3];exact hrs
   obtain ⟨a1,a2⟩:=h.sat hop r hrp rs rr;refine ⟨a1,fun q y a hg=>?_⟩;have og:=Ej g hrp (Cy h.ok rs) hg;have t:=a2 q y a hg;have t':Ls.Told E (s.calm p) q y a:=⟨t.1,t.2.1,t.2.2.1,by rw [cF];exact t.2.2.2.1,by rw [cwa];exact t.2.2.2.2⟩;exact t'.up g c1 c.up ⟨fun t ht=>(og.2.1 t ht).1,fun t ht=>(og.2.2 t ht).1⟩
 ·rcases c.st q hq with h1 | ⟨q',y,a,hg,rfl,hlt⟩
  ·rw [cst] at h1;exact h.pl q h1
  ·exact Pv g hi.mem hg hlt
 ·rcases c.wa q hq with h1 | ⟨q',y,hg,rfl⟩
  ·rw [cwa] at h1;obtain ⟨r,hr1,hr2,hr3⟩:=h.why q h1;exact ⟨r,hr1,(c.up.st r (by rw [cst];exact hr2)).1,hr3⟩
  ·exact ⟨p,hi.mem,ps',Ny hg⟩
 ·have hop:(s.calm p).hop=false:=by
   cases e:(s.calm p).hop with
   | false=>rfl
   | true=>rw [c.up.hop e] at hh;cases hh
  obtain ⟨y,hy,hl⟩:=h.x0 hop;obtain ⟨e1,rfl⟩:=Bv.1 hy;obtain ⟨k1,k2⟩:=c.up.st 0 (by rw [cst];exact e1);rw [cfr] at k2;exact ⟨_,Bv.2 ⟨k1,rfl⟩,hl.trans g k2 g.x0.arg (Cy h.ok e1).arg (Cy c.up.ok k1).arg⟩
theorem Yd {E:Ls.Env} (g:E.Good) {F:Nat→Option Ck.Fr} (hF:Ls.Sol E F) {bh:Cd.Ins→Ck.Fr→Option Ck.Fr}{i:Cd.Ins}{p:Nat} (hi:Ls.Ins E bh i p) {s:Ls.S} (h:Ls.J E s) (hr:(s.at p).ri=true) (hu:Ls.Under E F s):Ls.Under E F (Ls.lk E bh i (s.at p).fr (s.calm p)):=by
 have hp:p < s.sp.length:=by rw [h.len];exact g.lt p hi.mem
 have hst:(s.at p).st=true:=(h.ok _ (Ls.at_mem hp)).2 hr;obtain ⟨c1,c2,_⟩:=Ls.calm_le (K:=0) h.ok hp hr;obtain ⟨z,hz,hl⟩:=hu.2 p hst;refine Re g hF hi (Cy h.ok hst) hz hl c1 (c2.trans h.len) ⟨hu.1,fun j hj=>?_⟩;have cst:((s.calm p).at j).st=(s.at j).st:=by rw [Fn s hp];split <;> rename_i e <;> simp [e]
 have cfr:((s.calm p).at j).fr=(s.at j).fr:=by rw [Fn s hp];split <;> rename_i e <;> simp [e]
 rw [cst] at hj;rw [cfr];exact hu.2 j hj
theorem Ty {E:Ls.Env} (g:E.Good) {bh:Cd.Ins→Ck.Fr→Option Ck.Fr}:∀ (L:List Cd.Ins),(∀ i∈L,∃ p,Ls.Ins E bh i p)→∀ (b:Bool) {s:Ls.S},Ls.J E s →
  Ls.J E (Ls.pass (Ls.lk E bh) L b s).1∧(∀ F,Ls.Sol E F→Ls.Under E F s→Ls.Under E F (Ls.pass (Ls.lk E bh) L b s).1) ∧
  ((Ls.pass (Ls.lk E bh) L b s).2=false→b=false∧(Ls.pass (Ls.lk E bh) L b s).1=s∧∀ i∈L,(s.at i.place.toNat).ri=false)
 | [],_,b,s,h=>⟨h,fun _ _ hu=>hu,fun hb=>⟨hb,rfl,fun i hi=>by simp at hi⟩⟩
 | i :: r,hL,b,s,h=>by
  obtain ⟨p,hp⟩:=hL i (by simp);have ih:=fun b {s:Ls.S} h=>Ty g (bh:=bh) r (fun z hz=>hL z (by simp [hz])) b (s:=s) h;have hlt:p < s.sp.length:=by rw [h.len];exact g.lt p hp.mem
  have epl:i.place.toNat=p:=by rw [hp.pl];simp
  unfold Ls.pass
  split
  ·next hc =>
   obtain ⟨a1,a2,a3⟩:=ih b h;refine ⟨a1,a2,fun hb=>?_⟩;obtain ⟨b1,b2,b3⟩:=a3 hb;refine ⟨b1,b2,fun z hz=>?_⟩;rcases List.mem_cons.1 hz with rfl | hz
   ·rcases hc with hc | hc
    ·rw [hp.pl] at hc;omega
    ·exact hc
   ·exact b3 z hz
  ·next hc =>
   have hr:(s.at p).ri=true:=by
    cases e:(s.at p).ri with
    | true=>rfl
    | false=>exact absurd (.inr (by rw [epl];exact e)) hc
   rw [epl];obtain ⟨a1,a2,a3⟩:=ih true (Yu g hp h hr);refine ⟨a1,fun F hF hu=>a2 F hF (Yd g hF hp h hr hu),fun hb=>?_⟩;exact absurd (a3 hb).1 (by simp)
theorem Na {E:Ls.Env} (g:E.Good) {bh:Cd.Ins→Ck.Fr→Option Ck.Fr}{L:List Cd.Ins} (hL:∀ i∈L,∃ p,Ls.Ins E bh i p) (hp:∀ i∈L,0≤i.place) {K:Nat} (hk:∀ i∈L,∀ x s,E.I x→E.Ok s→Ls.Le E.T E.lo E.hi E.isN K s (Ls.lk E bh i x s)) :
  ∀ (m:Nat) {s:Ls.S},Ls.J E s→Ls.mu E.T K s < m→Ls.J E (Ls.rounds (Ls.lk E bh) L m s)∧(∀ F,Ls.Sol E F→Ls.Under E F s→Ls.Under E F (Ls.rounds (Ls.lk E bh) L m s)) ∧
   ((Ls.rounds (Ls.lk E bh) L m s).hop=false→∀ i∈L,((Ls.rounds (Ls.lk E bh) L m s).at i.place.toNat).ri=false)
 | 0,s,_,h=>absurd h (by omega)
 | m+1,s,h,hm=>by
  obtain ⟨a1,a2,a3⟩:=Ty g (bh:=bh) L hL false h;have h1:=Gx (K:=K) L hp hk false h.ok;unfold Ls.rounds
  split
  ·next hc =>
   have:=h1.2 hc.1 rfl;obtain ⟨b1,b2,b3⟩:=Na g hL hp hk m a1 (by omega);exact ⟨b1,fun F hF hu=>b2 F hF (a2 F hF hu),b3⟩
  ·next hc =>
   refine ⟨a1,a2,fun hh=>?_⟩;have:(Ls.pass (Ls.lk E bh) L false s).2=false:=by
    cases e:(Ls.pass (Ls.lk E bh) L false s).2 with
    | false=>rfl
    | true=>exact absurd ⟨e,hh⟩ hc
   obtain ⟨_,b2,b3⟩:=a3 this;rw [b2];exact b3
def Ls.init (E:Ls.Env):Ls.S:=⟨List.replicate E.n Ls.z,false⟩
theorem Io (E:Ls.Env) (q:Nat):(Ls.init E).at q=Ls.z:=by
 unfold Ls.init Ls.S.at;rw [List.getD_eq_getElem?_getD,List.getElem?_replicate]
 split <;> rfl
def Ls.found (E:Ls.Env) (bh:Cd.Ins→Ck.Fr→Option Ck.Fr) (L:List Cd.Ins):Ls.S:=Ls.done E.T (Ls.K E.T E.lo E.hi) (Ls.lk E bh) L (Ls.arrive E.T E.hi E.x0 0 (Ls.init E))
theorem Lm {E:Ls.Env} (g:E.Good) {bh:Cd.Ins→Ck.Fr→Option Ck.Fr}{L:List Cd.Ins} (hL:∀ i∈L,∃ p,Ls.Ins E bh i p):∀ i∈L,∀ x s,E.I x→E.Ok s→Ls.Le E.T E.lo E.hi E.isN (Ls.K E.T E.lo E.hi) s (Ls.lk E bh i x s):=fun i hi x s hx hs=>by
 obtain ⟨p,hp⟩:=hL i hi;exact W7 g.T hx (fun h hh=>(g.hnd h hh).2.2.2) (fun y hy=>by rw [hp.rl x hx] at hy;exact g.rl p hp.mem x y hx hy) hs
theorem Qc (E:Ls.Env):E.Ok (Ls.init E):=fun p hp=>by
 have:=List.eq_of_mem_replicate hp;subst this;exact ⟨fun h=>(by cases h),fun h=>(by cases h)⟩
theorem Dg {E:Ls.Env} (g:E.Good) {bh:Cd.Ins→Ck.Fr→Option Ck.Fr}{L:List Cd.Ins} (hL:∀ i∈L,∃ p,Ls.Ins E bh i p) (hA:∀ p∈E.ps,∃ i∈L,i.place=(p:Int)) :
  E.Ok (Ls.found E bh L)∧(Ls.found E bh L).sp.length=E.n∧((Ls.found E bh L).hop=false→Ls.Sol E (Ls.found E bh L).F∧(∀ q,(Ls.found E bh L).F q ≠ none→q∈E.ps)∧(∀ q,((Ls.found E bh L).at q).wa=true↔∃ p∈E.ps,(Ls.found E bh L).F p ≠ none∧Ls.Aim E p q)) ∧
  (∀ F,Ls.Sol E F→(Ls.found E bh L).hop=false∧∀ p x,(Ls.found E bh L).F p=some x→∃ y,F p=some y∧Ls.LeF E.T x y):=by
 have hz:0 < E.n:=g.lt 0 g.zero;have i0:=Qc E;have il:(Ls.init E).sp.length=E.n:=by simp [Ls.init]
 have hx0:E.x0.locals.length=E.lo∧(∀ t∈E.x0.locals,Ck.tyOk E.T E.isN t)∧∀ t∈E.x0.stack,Ck.tyOk E.T E.isN t:=⟨g.x0.lo,g.x0.tl,g.x0.ts⟩;have c:=Er g i0 il hx0 0;have J0:Ls.J E (Ls.arrive E.T E.hi E.x0 0 (Ls.init E)):=by
  refine ⟨c.up.ok,c.up.len.trans il,fun hh p hp hs hr=>?_,fun q hq=>?_,fun q hq=>?_,fun hh=>?_⟩
  ·obtain ⟨_,_,e⟩:=c.up.ri p hr;rw [hs,Io] at e;cases e
  ·rcases c.st q hq with h | ⟨rfl,_⟩
   ·rw [Io] at h;cases h
   ·exact g.zero
  ·rcases c.wa q hq with h | ⟨_,h⟩
   ·rw [Io] at h;cases h
   ·cases h
  ·exact (c.told hh).2.2.2.1
 have hpl:∀ i∈L,0≤i.place:=fun i hi=>by obtain ⟨p,hp⟩:=hL i hi;rw [hp.pl];omega
 obtain ⟨r1,r2,r3⟩:=Na g hL hpl (Lm g hL) (Ls.mu E.T (Ls.K E.T E.lo E.hi) (Ls.arrive E.T E.hi E.x0 0 (Ls.init E))+1) J0 (by omega);change Ls.J E (Ls.found E bh L) at r1;change ∀ F,Ls.Sol E F→_→Ls.Under E F (Ls.found E bh L) at r2;change (Ls.found E bh L).hop=false→∀ i∈L,((Ls.found E bh L).at i.place.toNat).ri=false at r3;refine ⟨r1.ok,r1.len,fun hh=>⟨⟨fun p x hx=>?_,r1.x0 hh,fun p hp x hx=>?_⟩,fun q hq=>?_,fun q=>⟨fun hq=>?_,?_⟩⟩,fun F hF=>?_⟩
 ·obtain ⟨e1,rfl⟩:=Bv.1 hx;exact Cy r1.ok e1
 ·obtain ⟨e1,rfl⟩:=Bv.1 hx;obtain ⟨i,hi,hip⟩:=hA p hp;have hr:=r3 hh i hi;rw [hip] at hr;obtain ⟨s1,s2⟩:=r1.sat hh p hp e1 (by simpa using hr);exact ⟨s1,fun q y a hg=>by obtain ⟨t1,t2,t3,t4,_⟩:=s2 q y a hg;exact ⟨t1,t2,t3,t4,fun _=>trivial⟩⟩
 ·cases e:(Ls.found E bh L).F q with
  | none=>exact absurd e hq
  | some x=>exact r1.pl q (Bv.1 e).1
 ·obtain ⟨p,h1,h2,h3⟩:=r1.why q hq;exact ⟨p,h1,by rw [Bv.2 ⟨h2,rfl⟩];simp,h3⟩
 ·rintro ⟨p,h1,h2,h3⟩;have e1:((Ls.found E bh L).at p).st=true:=by
   cases e:(Ls.found E bh L).F p with
   | none=>exact absurd e h2
   | some x=>exact (Bv.1 e).1
  obtain ⟨i,hi,hip⟩:=hA p h1;have hr:=r3 hh i hi;rw [hip] at hr;obtain ⟨⟨y,hy⟩,s2⟩:=r1.sat hh p h1 e1 (by simpa using hr);rcases h3 with ⟨h,hm,hc,rfl⟩ | ⟨hj,rfl⟩
  ·exact (s2 _ _ _ (.hnd h hm hc)).2.2.2.2 rfl
  ·exact (s2 _ _ _ (.jmp y hy hj)).2.2.2.2 rfl
 ·obtain ⟨y,hy,hl⟩:=hF.x0;have u0:Ls.Under E F (Ls.init E):=⟨rfl,fun q hq=>by rw [Io] at hq;cases hq⟩;have u1:=Fx g hF.inv i0 il u0 hx0 (q:=0) (by omega) (by omega) hy hl;have u2:=r2 F hF u1;exact ⟨u2.1,fun p x hx=>by obtain ⟨e1,rfl⟩:=Bv.1 hx;exact u2.2 p e1⟩
structure Lr.Sp where
 on:Bool
 aim:Bool
 fr:Ck.Fr
def Lr.z:Lr.Sp:=⟨false,false,⟨[],[]⟩⟩
structure Lr.S where
 sp:List Lr.Sp
 ch:Bool
 fine:Bool
def Lr.S.at (s:Lr.S) (q:Nat):Lr.Sp:=s.sp.getD q Lr.z
def Lr.comes (T:List Int) (s:Lr.Sp) (y:Ck.Fr) (a:Bool):Lr.Sp × Bool × Bool :=
 if s.on=false then (⟨true,a,y⟩,true,true) else if s.fr.stack.length ≠ y.stack.length then (s,false,false)
 else (⟨true,s.aim || a,Ls.join T s.fr y⟩,!(decide ((Ls.join T s.fr y).locals=s.fr.locals)) || !(decide ((Ls.join T s.fr y).stack=s.fr.stack)) || (a && !s.aim),true)
def Lr.to (T:List Int) (q:Int) (y:Ck.Fr) (a:Bool) (s:Lr.S):Lr.S :=
 ⟨s.sp.set q.toNat (Lr.comes T (s.at q.toNat) y a).1,s.ch || (Lr.comes T (s.at q.toNat) y a).2.1,s.fine && (Lr.comes T (s.at q.toNat) y a).2.2⟩
def Lr.S.bad (s:Lr.S):Lr.S:=⟨s.sp,s.ch,false⟩
def Lr.handlers (T:List Int) (hi:Int) (p:Int) (lo:List (Int × Int)):List Rd.Hnd→Lr.S→Lr.S × Bool
 | [],s=>(s,true)
 | h :: r,s=>if Pk.covers h p=true then (if hi < 1 then (s.bad,false) else Lr.handlers T hi p lo r (Lr.to T h.target ⟨lo,[(3,h.cl)]⟩ true s)) else Lr.handlers T hi p lo r s
def Lr.after (T:List Int) (n:Nat) (op ar nx:Int) (R:Option Ck.Fr) (s:Lr.S):Lr.S :=
 match R with
 | none=>s.bad
 | some y =>
  if Ck.goes op=false then (if Ck.jumps op=true then Lr.to T ar y true s else s)
  else if (n:Int)≤nx then (if Ck.jumps op=true then Lr.to T ar y true s else s).bad else Lr.to T nx y false (if Ck.jumps op=true then Lr.to T ar y true s else s)
def Lr.from (E:Ls.Env) (p:Nat) (s:Lr.S):Lr.S :=
 if (Lr.handlers E.T E.hi (p:Int) (s.at p).fr.locals E.hs s).2=false then (Lr.handlers E.T E.hi (p:Int) (s.at p).fr.locals E.hs s).1
 else Lr.after E.T E.n (E.op p) (E.ar p) (E.nx p) (E.rl p (s.at p).fr) (Lr.handlers E.T E.hi (p:Int) (s.at p).fr.locals E.hs s).1
def Lr.round (E:Ls.Env):List Nat→Lr.S→Option Lr.S
 | [],s=>some s
 | p :: r,s=>if (s.at p).on=true then (if (Lr.from E p s).fine=false then none else Lr.round E r (Lr.from E p s)) else Lr.round E r s
def Lr.S.calm (s:Lr.S):Lr.S:=⟨s.sp,false,s.fine⟩
def Lr.rounds (E:Ls.Env):Nat→Lr.S→Option Lr.S
 | 0,s=>some s
 | k+1,s=>match Lr.round E E.ps s.calm with
  | none=>none
  | some t=>if t.ch=false then some t else Lr.rounds E k t
def Lr.S.F (s:Lr.S) (q:Nat):Option Ck.Fr:=if (s.at q).on=true then some (s.at q).fr else none
theorem Bx {s:Lr.S}{q:Nat}{x:Ck.Fr}:s.F q=some x↔(s.at q).on=true∧(s.at q).fr=x:=by
 unfold Lr.S.F
 split
 ·next h=>simp [h]
 ·next h=>simp [h]
theorem Qd (sp:List Lr.Sp) (ch fine:Bool) {q:Nat} (hq:q < sp.length) (y:Lr.Sp) (i:Nat):(⟨sp.set q y,ch,fine⟩:Lr.S).at i=if i=q then y else sp.getD i Lr.z:=by
 unfold Lr.S.at;simp only [List.getD_eq_getElem?_getD,List.getElem?_set];by_cases e:q=i
 ·subst e;simp [hq]
 ·rw [if_neg e,if_neg (fun h=>e h.symm)]
def Lr.Ok (E:Ls.Env) (s:Lr.S):Prop:=∀ q,((s.at q).on=true→E.I (s.at q).fr)∧((s.at q).aim=true→(s.at q).on=true)
def Lr.cost (E:Ls.Env) (p:Lr.Sp):Nat:=(if p.on=true then Ls.hf E.T p.fr else Ls.K E.T E.lo E.hi)+(if p.aim=true then 0 else 1)
def Lr.nu (E:Ls.Env) (s:Lr.S):Nat:=(s.sp.map (Lr.cost E)).sum
structure Lr.Cames (E:Ls.Env) (s s':Lr.S) (R:Int→Ck.Fr→Bool→Prop):Prop where
 ok:Lr.Ok E s'
 len:s'.sp.length=s.sp.length
 fine:s.fine=false→s'.fine=false
 up:∀ q,(s.at q).on=true→(s'.at q).on=true∧Ls.LeF E.T (s.at q).fr (s'.at q).fr
 aim:∀ q,(s.at q).aim=true→(s'.at q).aim=true
 same:s'.ch=false→s.ch=false∧s'.sp=s.sp
 told:s'.fine=true→∀ q y a,R q y a→(∃ z,s'.F q.toNat=some z∧Ls.LeF E.T y z)∧(a=true→(s'.at q.toNat).aim=true)
 on:∀ i,(s'.at i).on=true→(s.at i).on=true∨∃ q y a,R q y a∧i=q.toNat
 why:∀ i,(s'.at i).aim=true→(s.at i).aim=true∨∃ q y,R q y true∧i=q.toNat
 nu:Lr.nu E s'≤Lr.nu E s∧(s.ch=false→s'.ch=true→Lr.nu E s' < Lr.nu E s)
theorem Lr.Cames.nil {E:Ls.Env}{s:Lr.S} (h:Lr.Ok E s) {R:Int→Ck.Fr→Bool→Prop} (hR:∀ q y a,¬ R q y a):Lr.Cames E s s R :=
 ⟨h,rfl,fun h=>h,fun q h=>⟨h,.refl _ _⟩,fun _ h=>h,fun h=>⟨h,rfl⟩,fun _ q y a h=>absurd h (hR q y a),fun _ h=>.inl h,fun _ h=>.inl h,Nat.le_refl _,fun h g=>by rw [h] at g;cases g⟩
theorem Lr.Cames.trans {E:Ls.Env} (g:E.Good) {s t u:Lr.S} (hs:Lr.Ok E s) {A B R:Int→Ck.Fr→Bool→Prop} (h:Lr.Cames E s t A) (k:Lr.Cames E t u B) (hA:∀ q y a,A q y a→Ck.argF E.T y) (hR:∀ q y a,R q y a↔A q y a∨B q y a):Lr.Cames E s u R:=by
 refine ⟨k.ok,k.len.trans h.len,fun e=>k.fine (h.fine e),fun q hq=>?_,fun q hq=>k.aim q (h.aim q hq),fun e=>?_,fun e q y a hr=>?_,fun i hi=>?_,fun i hi=>?_,Nat.le_trans k.nu.1 h.nu.1,fun e1 e2=>?_⟩
 ·obtain ⟨h1,h2⟩:=h.up q hq;obtain ⟨k1,k2⟩:=k.up q h1;exact ⟨k1,h2.trans g k2 ((hs q).1 hq).arg ((h.ok q).1 h1).arg ((k.ok q).1 k1).arg⟩
 ·obtain ⟨k1,k2⟩:=k.same e;obtain ⟨h1,h2⟩:=h.same k1;exact ⟨h1,k2.trans h2⟩
 ·have ht:t.fine=true:=by
   cases e':t.fine with
   | true=>rfl
   | false=>rw [k.fine e'] at e;cases e
  rcases (hR q y a).1 hr with h1 | h1
  ·obtain ⟨⟨z,hz,hl⟩,ha⟩:=h.told ht q y a h1;obtain ⟨z1,rfl⟩:=Bx.1 hz;obtain ⟨k1,k2⟩:=k.up _ z1;exact ⟨⟨_,Bx.2 ⟨k1,rfl⟩,hl.trans g k2 (hA q y a h1) ((h.ok _).1 z1).arg ((k.ok _).1 k1).arg⟩,fun ea=>k.aim _ (ha ea)⟩
  ·exact k.told e q y a h1
 ·rcases k.on i hi with h1 | ⟨q,y,a,h1,h2⟩
  ·exact (h.on i h1).imp id fun ⟨q,y,a,h1,h2⟩=>⟨q,y,a,(hR _ _ _).2 (.inl h1),h2⟩
  ·exact .inr ⟨q,y,a,(hR _ _ _).2 (.inr h1),h2⟩
 ·rcases k.why i hi with h1 | ⟨q,y,h1,h2⟩
  ·exact (h.why i h1).imp id fun ⟨q,y,h1,h2⟩=>⟨q,y,(hR _ _ _).2 (.inl h1),h2⟩
  ·exact .inr ⟨q,y,(hR _ _ _).2 (.inr h1),h2⟩
 ·have h1:=h.nu;have k1:=k.nu;cases et:t.ch with
  | true=>have:=h1.2 e1 et;omega
  | false=>have:=k1.2 et e2;omega
theorem Lr.Cames.bad {E:Ls.Env}{s t:Lr.S}{A R:Int→Ck.Fr→Bool→Prop} (h:Lr.Cames E s t A) (hR:∀ q y a,A q y a→R q y a):Lr.Cames E s t.bad R :=
 ⟨h.ok,h.len,fun _=>rfl,h.up,h.aim,h.same,fun e=>(by cases e),fun i hi=>(h.on i hi).imp id fun ⟨q,y,a,h1,h2⟩=>⟨q,y,a,hR _ _ _ h1,h2⟩,fun i hi=>(h.why i hi).imp id fun ⟨q,y,h1,h2⟩=>⟨q,y,hR _ _ _ h1,h2⟩,h.nu⟩
theorem Sj {T:List Int} (hT:Tr.Ok T) {x y:Ck.Fr} (hx:Ck.argF T x) (hy:Ck.argF T y) (hl:x.locals.length=y.locals.length) (hs:x.stack.length=y.stack.length):Ls.hf T (Ls.join T x y)≤Ls.hf T x∧(¬ ((Ls.join T x y).locals=x.locals∧(Ls.join T x y).stack=x.stack)→Ls.hf T (Ls.join T x y) < Ls.hf T x):=by
 obtain ⟨j1,j2,j3⟩:=Gq hT hx hy hl hs;have aux:∀ (a b:List (Int × Int)),(∀ t∈a,Tr.Arg T t.1 t.2)→(∀ t∈b,Tr.Arg T t.1 t.2)→a.length=b.length→Ls.hts T (List.zipWith (Tr.joinT T) a b)≤Ls.hts T a∧(List.zipWith (Tr.joinT T) a b ≠ a→Ls.hts T (List.zipWith (Tr.joinT T) a b) < Ls.hts T a):=by
  intro a
  induction a with
  | nil=>intro b _ _ _;exact ⟨by simp [Ls.hts],fun h=>absurd rfl h⟩
  | cons s a ih =>
   intro b ha hb he;cases b with
   | nil=>simp at he
   | cons t b =>
    have h1:=ih b (fun t ht=>ha t (by simp [ht])) (fun t ht=>hb t (by simp [ht])) (by simpa using he);have hs:=ha s (by simp);have ht:=hb t (by simp);have e:Tr.joinT T s t=Tr.joinT T t s:=Tr.join_comm hT hs ht;have h2:=Pr hT (a:=t) (b:=s) ht hs;have h3:Tr.fitsB T t.1 t.2 s.1 s.2=true→Tr.joinT T t s=s:=fun hf=>by unfold Tr.joinT;rw [if_pos hf]
    unfold Ls.hts at h1 ⊢;simp only [List.zipWith_cons_cons,List.map_cons,List.sum_cons];rw [e];refine ⟨by omega,fun hne=>?_⟩;by_cases hf:Tr.fitsB T t.1 t.2 s.1 s.2=true
    ·rw [h3 hf] at hne ⊢;have:=h1.2 (fun e=>hne (by rw [e]));omega
    ·have:=h2.2 (by simpa using hf);omega
 have a1:=aux x.locals y.locals hx.1 hy.1 hl;have a2:=aux x.stack y.stack hx.2 hy.2 hs;unfold Ls.hf Ls.join;simp only;refine ⟨by omega,fun hn=>?_⟩;by_cases e:List.zipWith (Tr.joinT T) x.locals y.locals=x.locals
 ·have:=a2.2 (fun e2=>hn ⟨e,e2⟩);omega
 ·have:=a1.2 e;omega
theorem Fl {E:Ls.Env} (g:E.Good) {s:Lr.S} (h:Lr.Ok E s) (hn:s.sp.length=E.n) {y:Ck.Fr} (hy:E.I y) {q:Int} (h0:0≤q) (h1:q < (E.n:Int)) (a:Bool):Lr.Cames E s (Lr.to E.T q y a s) (fun q' y' a'=>q'=q∧y'=y∧a'=a):=by
 have hq:q.toNat < s.sp.length:=by omega
 have eat:∀ i,(s.sp.getD i Lr.z)=s.at i:=fun _=>rfl;have key:∀ (p:Lr.Sp) (c f:Bool),Lr.comes E.T (s.at q.toNat) y a=(p,c,f) →
   (p.on=true→E.I p.fr)→(p.aim=true→p.on=true)→((s.at q.toNat).on=true→p.on=true∧Ls.LeF E.T (s.at q.toNat).fr p.fr)→((s.at q.toNat).aim=true→p.aim=true)→(c=false→p=s.at q.toNat)→(f=true→p.on=true∧Ls.LeF E.T y p.fr∧(a=true→p.aim=true)) →
   (p.aim=true→(s.at q.toNat).aim=true∨a=true)→(Lr.cost E p≤Lr.cost E (s.at q.toNat)∧(c=true→Lr.cost E p < Lr.cost E (s.at q.toNat)))→Lr.Cames E s (Lr.to E.T q y a s) (fun q' y' a'=>q'=q∧y'=y∧a'=a):=by
  intro p c f e k1 k1' k2 k3 k4 k5 k6 k7;have et:Lr.to E.T q y a s=⟨s.sp.set q.toNat p,s.ch || c,s.fine && f⟩:=by unfold Lr.to;rw [e]
  rw [et];have hat:=fun i=>Qd s.sp (s.ch || c) (s.fine && f) hq p i;have hsum:=Gw (Lr.cost E) Lr.z p s.sp q.toNat hq;have enu:Lr.nu E (⟨s.sp.set q.toNat p,s.ch || c,s.fine && f⟩:Lr.S)+Lr.cost E (s.at q.toNat)=Lr.nu E s+Lr.cost E p:=hsum;refine ⟨fun i=>?_,by simp,fun e=>by simp [e],fun i hi=>?_,fun i hi=>?_,fun e=>?_,fun hfi q' y' a' hr=>?_,fun i hi=>?_,fun i hi=>?_,by omega,fun e1 e2=>?_⟩
  ·rw [hat]
   split
   ·exact ⟨k1,k1'⟩
   ·exact h i
  ·rw [hat]
   split
   ·next e=>subst e;exact k2 hi
   ·exact ⟨hi,.refl _ _⟩
  ·rw [hat]
   split
   ·next e=>subst e;exact k3 hi
   ·exact hi
  ·have ec:s.ch=false∧c=false:=by simpa using e
   refine ⟨ec.1,?_⟩;rw [k4 ec.2];unfold Lr.S.at;rw [List.getD_eq_getElem?_getD,List.getElem?_eq_getElem hq]
   simp
  ·obtain ⟨rfl,rfl,rfl⟩:=hr;have ef:f=true:=by
    have:s.fine=true∧f=true:=by simpa using hfi
    exact this.2
   obtain ⟨m1,m2,m3⟩:=k5 ef;have e1:(⟨s.sp.set q'.toNat p,s.ch || c,s.fine && f⟩:Lr.S).at q'.toNat=p:=by rw [hat,if_pos rfl]
   exact ⟨⟨_,Bx.2 ⟨by rw [e1];exact m1,rfl⟩,by rw [e1];exact m2⟩,fun ea=>by rw [e1];exact m3 ea⟩
  ·rw [hat] at hi
   split at hi
   ·next e=>exact .inr ⟨q,y,a,⟨rfl,rfl,rfl⟩,e⟩
   ·exact .inl hi
  ·rw [hat] at hi
   split at hi
   ·next e =>
    subst e;rcases k6 hi with h | h
    ·exact .inl h
    ·exact .inr ⟨q,y,⟨rfl,rfl,h.symm⟩,rfl⟩
   ·exact .inl hi
  ·have ec:c=true:=by simpa [e1] using e2
   have:=k7.2 ec;omega
 have hlt:=Wq hy;cases hon:(s.at q.toNat).on with
 | false =>
  have haim:(s.at q.toNat).aim=false:=by
   cases e:(s.at q.toNat).aim with
   | false=>rfl
   | true=>have:=(h q.toNat).2 e;rw [hon] at this;cases this
  refine key ⟨true,a,y⟩ true true (by unfold Lr.comes;rw [if_pos hon]) (fun _=>hy) (fun _=>rfl) (fun e=>by rw [hon] at e;cases e) (fun e=>by rw [haim] at e;cases e) (fun e=>by cases e) (fun _=>⟨rfl,.refl _ _,fun e=>e⟩) (fun e=>.inr e) ?_;have:Lr.cost E ⟨true,a,y⟩ < Lr.cost E (s.at q.toNat):=by
   simp only [Lr.cost,Ls.K,hon,haim,if_true,Bool.false_eq_true,if_false]
   split <;> omega
  exact ⟨Nat.le_of_lt this,fun _=>this⟩
 | true =>
  have hx:=(h q.toNat).1 hon;by_cases hs:(s.at q.toNat).fr.stack.length ≠ y.stack.length
  ·exact key (s.at q.toNat) false false (by unfold Lr.comes;rw [if_neg (by simp [hon]),if_pos hs]) (h q.toNat).1 (h q.toNat).2 (fun e=>⟨e,.refl _ _⟩) (fun e=>e) (fun _=>rfl) (fun e=>by cases e) (fun e=>.inl e) ⟨Nat.le_refl _,fun e=>by cases e⟩
  ·have hs':(s.at q.toNat).fr.stack.length=y.stack.length:=by simpa using hs
   have hl':(s.at q.toNat).fr.locals.length=y.locals.length:=by rw [hx.lo,hy.lo]
   obtain ⟨j1,j2,j3⟩:=Gq g.T hx.arg hy.arg hl' hs';obtain ⟨c1,c2⟩:=Sj g.T hx.arg hy.arg hl' hs';have ji:=Js g.T hx hy;refine key ⟨true,(s.at q.toNat).aim || a,Ls.join E.T (s.at q.toNat).fr y⟩ _ true (by unfold Lr.comes;rw [if_neg (by simp [hon]),if_neg hs]) (fun _=>ji) (fun _=>rfl) (fun _=>⟨rfl,j1⟩) (fun e=>by simp [e]) (fun e=>?_) (fun _=>⟨rfl,j2,fun e=>by simp [e]⟩) (fun e=>by simpa using e) ?_
   ·simp only [Bool.or_eq_false_iff,Bool.not_eq_eq_eq_not,Bool.not_false,decide_eq_true_eq,Bool.and_eq_false_imp] at e;obtain ⟨⟨e1,e2⟩,e3⟩:=e;have ea:((s.at q.toNat).aim || a)=(s.at q.toNat).aim:=by
     cases h1:a with
     | false=>simp
     | true=>have:=e3 h1;simp [this]
    generalize hp:s.at q.toNat=P at *;obtain ⟨on,aim,⟨fl,fs⟩⟩:=P;simp only at hon ea e1 e2 ⊢;rw [hon,ea];generalize hj:Ls.join E.T ⟨fl,fs⟩ y=J at *;obtain ⟨jl,js⟩:=J;simp only at e1 e2;rw [e1,e2]
   ·unfold Lr.cost;rw [if_pos rfl,if_pos hon];have ca:(if ((s.at q.toNat).aim || a)=true then 0 else 1)≤(if (s.at q.toNat).aim=true then (0:Nat) else 1):=by
     cases (s.at q.toNat).aim <;> cases a <;> simp
    refine ⟨by simp only;omega,fun e=>?_⟩;simp only;by_cases hc:(Ls.join E.T (s.at q.toNat).fr y).locals=(s.at q.toNat).fr.locals∧(Ls.join E.T (s.at q.toNat).fr y).stack=(s.at q.toNat).fr.stack
    ·rw [decide_eq_true hc.1,decide_eq_true hc.2] at e;have e':a=true∧(s.at q.toNat).aim=false:=by simpa using e
     rw [e'.1,e'.2]
     simp
     omega
    ·have:=c2 hc;omega
theorem Lr.Cames.imp {E:Ls.Env}{s t:Lr.S}{A R:Int→Ck.Fr→Bool→Prop} (h:Lr.Cames E s t A) (hR:∀ q y a,A q y a↔R q y a):Lr.Cames E s t R :=
 ⟨h.ok,h.len,h.fine,h.up,h.aim,h.same,fun e q y a hr=>h.told e q y a ((hR q y a).2 hr),fun i hi=>(h.on i hi).imp id fun ⟨q,y,a,h1,h2⟩=>⟨q,y,a,(hR _ _ _).1 h1,h2⟩,fun i hi=>(h.why i hi).imp id fun ⟨q,y,h1,h2⟩=>⟨q,y,(hR _ _ _).1 h1,h2⟩,h.nu⟩
theorem Hh {E:Ls.Env} (g:E.Good) {x:Ck.Fr} (hx:E.I x) {h:Rd.Hnd} (hh:h∈E.hs) (h1:¬ E.hi < 1):E.I (Ls.caught x h) :=
 ⟨hx.lo,by show ((1:Nat):Int)≤E.hi;omega,hx.tl,fun t ht=>by rw [List.mem_singleton.1 ht];exact ⟨(g.hnd h hh).2.2.2,fun h=>by simp at h⟩⟩
theorem Dj {E:Ls.Env} (g:E.Good) {x:Ck.Fr} (hx:E.I x) (p:Nat):∀ (l:List Rd.Hnd),(∀ h∈l,h∈E.hs)→∀ {s:Lr.S},Lr.Ok E s→s.sp.length=E.n →
  Lr.Cames E s (Lr.handlers E.T E.hi (p:Int) x.locals l s).1 (fun q y a=>∃ h∈l,Pk.covers h (p:Int)=true∧q=h.target∧y=Ls.caught x h∧a=true) ∧
  ((Lr.handlers E.T E.hi (p:Int) x.locals l s).2=false→(Lr.handlers E.T E.hi (p:Int) x.locals l s).1.fine=false)∧((Lr.handlers E.T E.hi (p:Int) x.locals l s).2=true→∀ h∈l,Pk.covers h (p:Int)=true→¬ E.hi < 1)
 | [],_,s,h0,_=>⟨.nil h0 (by rintro q y a ⟨h,hh,_⟩;simp at hh),fun h=>(by cases h),fun _ h hh=>(by simp at hh)⟩
 | h :: r,hm,s,h0,hn=>by
  unfold Lr.handlers;by_cases hc:Pk.covers h (p:Int)=true
  ·rw [if_pos hc];by_cases h1:E.hi < 1
   ·rw [if_pos h1];refine ⟨Lr.Cames.bad (A:=fun _ _ _=>False) (.nil h0 (fun _ _ _ h=>h)) (fun _ _ _ h=>h.elim),fun _=>rfl,fun e=>by cases e⟩
   ·rw [if_neg h1];have hh:=hm h (by simp);have hg:=g.hnd h hh;have c1:=Fl g h0 hn (Hh g hx hh h1) hg.1 hg.2.1 true;obtain ⟨c2,e1,e2⟩:=Dj g hx p r (fun z hz=>hm z (by simp [hz])) c1.ok (c1.len.trans hn);refine ⟨c1.trans g h0 c2 ?_ (fun q y a=>?_),e1,fun e z hz hzc=>?_⟩
    ·rintro q y a ⟨_,rfl,_⟩;exact (Hh g hx hh h1).arg
    ·constructor
     ·rintro ⟨k,hk,hr⟩;rcases List.mem_cons.1 hk with rfl | hk
      ·exact .inl hr.2
      ·exact .inr ⟨k,hk,hr⟩
     ·rintro (hr | ⟨k,hk,hr⟩)
      ·exact ⟨h,by simp,hc,hr⟩
      ·exact ⟨k,by simp [hk],hr⟩
    ·exact h1
  ·rw [if_neg hc];obtain ⟨c2,e1,e2⟩:=Dj g hx p r (fun z hz=>hm z (by simp [hz])) h0 hn;refine ⟨c2.imp (fun q y a=>?_),e1,fun e z hz hzc=>?_⟩
   ·constructor
    ·rintro ⟨k,hk,hr⟩;exact ⟨k,by simp [hk],hr⟩
    ·rintro ⟨k,hk,hr⟩;rcases List.mem_cons.1 hk with rfl | hk
     ·exact absurd hr.1 hc
     ·exact ⟨k,hk,hr⟩
   ·rcases List.mem_cons.1 hz with rfl | hz
    ·exact absurd hzc hc
    ·exact e2 e z hz hzc
theorem Mr {E:Ls.Env} (g:E.Good) {p:Nat} (hp:p∈E.ps) {s:Lr.S} (h0:Lr.Ok E s) (hn:s.sp.length=E.n) (hon:(s.at p).on=true) :
  Lr.Cames E s (Lr.from E p s) (Ls.Goes E p (s.at p).fr)∧((Lr.from E p s).fine=true→(∃ y,E.rl p (s.at p).fr=some y)∧∀ q y a,Ls.Goes E p (s.at p).fr q y a→0≤q∧q < (E.n:Int)∧(y.stack.length:Int)≤E.hi):=by
 have hx:=(h0 p).1 hon;unfold Lr.from;generalize (s.at p).fr=x at *;obtain ⟨hH,e1,e2⟩:=Dj g hx p E.hs (fun h hh=>hh) h0 hn;have hHA:∀ q y a,(∃ h∈E.hs,Pk.covers h (p:Int)=true∧q=h.target∧y=Ls.caught x h∧a=true)→Ck.argF E.T y:=by
  rintro q y a ⟨h,hh,hc,rfl,rfl,rfl⟩;have:=Ej g hp hx (.hnd h hh hc);exact ⟨fun t ht=>(this.2.1 t ht).1,fun t ht=>(this.2.2 t ht).1⟩
 have hHG:∀ q y a,(∃ h∈E.hs,Pk.covers h (p:Int)=true∧q=h.target∧y=Ls.caught x h∧a=true)→Ls.Goes E p x q y a:=by
  rintro q y a ⟨h,hh,hc,rfl,rfl,rfl⟩;exact .hnd h hh hc
 generalize Lr.handlers E.T E.hi (p:Int) x.locals E.hs s=H at *;obtain ⟨t,b⟩:=H;simp only at hH e1 e2 ⊢;cases b with
 | false =>
  rw [if_pos rfl];have ef:=e1 rfl;refine ⟨⟨hH.ok,hH.len,hH.fine,hH.up,hH.aim,hH.same,fun e=>(by rw [ef] at e;cases e),fun i hi=>(hH.on i hi).imp id fun ⟨q,y,a,h1,h2⟩=>⟨q,y,a,hHG _ _ _ h1,h2⟩,fun i hi=>(hH.why i hi).imp id fun ⟨q,y,h1,h2⟩=>⟨q,y,hHG _ _ _ h1,h2⟩,hH.nu⟩,fun e=>by rw [ef] at e;cases e⟩
 | true =>
  rw [if_neg (by simp)];have hcov:=e2 rfl;have nt:t.sp.length=E.n:=hH.len.trans hn;unfold Lr.after;cases hr:E.rl p x with
  | none=>exact ⟨hH.bad hHG,fun e=>by cases e⟩
  | some y =>
   have iy:=g.rl p hp x y hx hr;simp only;have h2:Lr.Cames E s (if Ck.jumps (E.op p)=true then Lr.to E.T (E.ar p) y true t else t)
     (fun q z a=>(∃ h∈E.hs,Pk.covers h (p:Int)=true∧q=h.target∧z=Ls.caught x h∧a=true)∨(Ck.jumps (E.op p)=true∧q=E.ar p∧z=y∧a=true)):=by
    split
    ·next hj =>
     obtain ⟨t1,t2,_⟩:=g.tgt p hp hj;exact hH.trans g h0 (Fl g hH.ok nt iy t1 t2 true) hHA (fun q z a=>by simp [hj])
    ·next hj=>exact hH.imp (fun q z a=>by simp [hj])
   have h2A:∀ q z a,((∃ h∈E.hs,Pk.covers h (p:Int)=true∧q=h.target∧z=Ls.caught x h∧a=true)∨(Ck.jumps (E.op p)=true∧q=E.ar p∧z=y∧a=true))→Ck.argF E.T z:=by
    rintro q z a (hh | ⟨_,_,rfl,_⟩)
    ·exact hHA q z a hh
    ·exact iy.arg
   have h2G:∀ q z a,((∃ h∈E.hs,Pk.covers h (p:Int)=true∧q=h.target∧z=Ls.caught x h∧a=true)∨(Ck.jumps (E.op p)=true∧q=E.ar p∧z=y∧a=true))→Ls.Goes E p x q z a:=by
    rintro q z a (hh | ⟨hj,rfl,rfl,rfl⟩)
    ·exact hHG q z a hh
    ·exact .jmp _ hr hj
   have hin:∀ q z a,((∃ h∈E.hs,Pk.covers h (p:Int)=true∧q=h.target∧z=Ls.caught x h∧a=true)∨(Ck.jumps (E.op p)=true∧q=E.ar p∧z=y∧a=true))→0≤q∧q < (E.n:Int)∧(z.stack.length:Int)≤E.hi:=by
    rintro q z a (⟨h,hh,hc,rfl,rfl,rfl⟩ | ⟨hj,rfl,rfl,rfl⟩)
    ·have:=g.hnd h hh;exact ⟨this.1,this.2.1,(Hh g hx hh (hcov h hh hc)).hi⟩
    ·obtain ⟨t1,t2,_⟩:=g.tgt p hp hj;exact ⟨t1,t2,iy.hi⟩
   by_cases hg:Ck.goes (E.op p)=false
   ·rw [if_pos hg];have hiff:∀ q z a,((∃ h∈E.hs,Pk.covers h (p:Int)=true∧q=h.target∧z=Ls.caught x h∧a=true)∨(Ck.jumps (E.op p)=true∧q=E.ar p∧z=y∧a=true))↔Ls.Goes E p x q z a:=fun q z a=>by
     refine ⟨h2G q z a,fun h=>?_⟩;cases h using Ls.Goes.el with
     | hnd h hh hc=>exact .inl ⟨h,hh,hc,rfl,rfl,rfl⟩
     | jmp z h1 h2=>rw [hr] at h1;cases h1;exact .inr ⟨h2,rfl,rfl,rfl⟩
     | nxt z h1 h2=>rw [hg] at h2;cases h2
    exact ⟨h2.imp hiff,fun _=>⟨⟨y,rfl⟩,fun q z a h=>hin q z a ((hiff q z a).2 h)⟩⟩
   ·rw [if_neg hg];have hg':Ck.goes (E.op p)=true:=by simpa using hg
    by_cases hnx:(E.n:Int)≤E.nx p
    ·rw [if_pos hnx];exact ⟨h2.bad h2G,fun e=>by cases e⟩
    ·rw [if_neg hnx];have hnx0:0≤E.nx p:=by unfold Ls.Env.nx;omega
     have hiff:∀ q z a,Ls.Goes E p x q z a↔((∃ h∈E.hs,Pk.covers h (p:Int)=true∧q=h.target∧z=Ls.caught x h∧a=true)∨(Ck.jumps (E.op p)=true∧q=E.ar p∧z=y∧a=true))∨(q=E.nx p∧z=y∧a=false):=fun q z a=>by
      constructor
      ·intro h;cases h using Ls.Goes.el with
       | hnd h hh hc=>exact .inl (.inl ⟨h,hh,hc,rfl,rfl,rfl⟩)
       | jmp z h1 h2=>rw [hr] at h1;cases h1;exact .inl (.inr ⟨h2,rfl,rfl,rfl⟩)
       | nxt z h1 h2=>rw [hr] at h1;cases h1;exact .inr ⟨rfl,rfl,rfl⟩
      ·rintro (h | ⟨rfl,rfl,rfl⟩)
       ·exact h2G q z a h
       ·exact .nxt _ hr hg'
     refine ⟨h2.trans g h0 (Fl g h2.ok (h2.len.trans hn) iy hnx0 (by omega) false) h2A hiff,fun _=>⟨⟨y,rfl⟩,fun q z a h=>?_⟩⟩;rcases (hiff q z a).1 h with h | ⟨rfl,rfl,rfl⟩
     ·exact hin q z a h
     ·exact ⟨hnx0,by omega,iy.hi⟩
def Lr.Under (E:Ls.Env) (F:Nat→Option Ck.Fr) (s:Lr.S):Prop:=s.fine=true∧∀ q,(s.at q).on=true→∃ z,F q=some z∧Ls.LeF E.T (s.at q).fr z
theorem Hi {E:Ls.Env} (g:E.Good) {F:Nat→Option Ck.Fr} (hF:∀ p x,F p=some x→E.I x) {s:Lr.S} (h:Lr.Ok E s) (hn:s.sp.length=E.n) (hu:Lr.Under E F s) {y:Ck.Fr} (hy:E.I y) {q:Int} (h0:0≤q) (h1:q < (E.n:Int)) (a:Bool) {z:Ck.Fr} (hz:F q.toNat=some z) (hl:Ls.LeF E.T y z):Lr.Under E F (Lr.to E.T q y a s):=by
 have hq:q.toNat < s.sp.length:=by omega
 have key:∀ (p:Lr.Sp) (c:Bool),Lr.comes E.T (s.at q.toNat) y a=(p,c,true)→Ls.LeF E.T p.fr z→Lr.Under E F (Lr.to E.T q y a s):=by
  intro p c e hp;have et:Lr.to E.T q y a s=⟨s.sp.set q.toNat p,s.ch || c,s.fine && true⟩:=by unfold Lr.to;rw [e]
  rw [et];refine ⟨by simpa using hu.1,fun i hi=>?_⟩;rw [Qd s.sp _ _ hq p i] at hi ⊢
  split at hi
  ·next e=>subst e;rw [if_pos rfl];exact ⟨z,hz,hp⟩
  ·next e=>rw [if_neg e];exact hu.2 i hi
 cases hon:(s.at q.toNat).on with
 | false=>exact key ⟨true,a,y⟩ true (by unfold Lr.comes;rw [if_pos hon]) hl
 | true =>
  obtain ⟨z',hz',hl'⟩:=hu.2 _ hon;rw [hz] at hz';cases hz';have hx:=(h q.toNat).1 hon;have e1:(s.at q.toNat).fr.locals.length=y.locals.length:=hl'.lo.len.trans hl.lo.len.symm;have e2:(s.at q.toNat).fr.stack.length=y.stack.length:=hl'.st.len.trans hl.st.len.symm;exact key ⟨true,(s.at q.toNat).aim || a,Ls.join E.T (s.at q.toNat).fr y⟩ _ (by unfold Lr.comes;rw [if_neg (by simp [hon]),if_neg (by simp [e2])]) ((Gq g.T hx.arg hy.arg e1 e2).2.2 z (hF _ _ hz).arg hl' hl)
theorem Qn {E:Ls.Env} (g:E.Good) {F:Nat→Option Ck.Fr} (hF:Ls.Sol E F) {p:Nat} (hp:p∈E.ps) {s:Lr.S} (h0:Lr.Ok E s) (hn:s.sp.length=E.n) (hon:(s.at p).on=true) (hu:Lr.Under E F s):Lr.Under E F (Lr.from E p s):=by
 have hx:=(h0 p).1 hon;obtain ⟨z,hz,hl⟩:=hu.2 p hon;unfold Lr.from;generalize (s.at p).fr=x at *;have sz:=hF.sat p hp z hz;have iz:=hF.inv p z hz;have key:∀ {q u a},Ls.Goes E p x q u a→0≤q∧q < (E.n:Int)∧(u.stack.length:Int)≤E.hi∧∃ v,F q.toNat=some v∧Ls.LeF E.T u v:=by
  intro q u a hg;obtain ⟨u',k1,k2⟩:=Md g hp hx iz hl hg sz.rl;obtain ⟨a1,a2,a3',⟨v,a3,a4⟩,_⟩:=sz.go q u' a k1;have ou:=Ej g hp hx hg;have ou':=Ej g hp iz k1;exact ⟨a1,a2,by rw [k2.st.len];exact a3',v,a3,k2.trans g a4 ⟨fun t ht=>(ou.2.1 t ht).1,fun t ht=>(ou.2.2 t ht).1⟩ ⟨fun t ht=>(ou'.2.1 t ht).1,fun t ht=>(ou'.2.2 t ht).1⟩ (hF.inv _ _ a3).arg⟩
 have hH:∀ (l:List Rd.Hnd),(∀ h∈l,h∈E.hs)→∀ {s:Lr.S},Lr.Ok E s→s.sp.length=E.n→Lr.Under E F s→(Lr.handlers E.T E.hi (p:Int) x.locals l s).2=true∧Lr.Under E F (Lr.handlers E.T E.hi (p:Int) x.locals l s).1:=by
  intro l
  induction l with
  | nil=>intro _ s _ _ hu;exact ⟨rfl,hu⟩
  | cons h r ih =>
   intro hm s h0 hn hu;unfold Lr.handlers;by_cases hc:Pk.covers h (p:Int)=true
   ·rw [if_pos hc];have hh:=hm h (by simp);have hg:=g.hnd h hh;obtain ⟨_,_,k3,v,k4,k5⟩:=key (.hnd h hh hc);have h1:¬ E.hi < 1:=by
     have:((1:Nat):Int)≤E.hi:=k3;omega
    rw [if_neg h1];have ci:=Hh g hx hh h1;have c1:=Fl g h0 hn ci hg.1 hg.2.1 true;exact ih (fun z hz=>hm z (by simp [hz])) c1.ok (c1.len.trans hn) (Hi g hF.inv h0 hn hu ci hg.1 hg.2.1 true k4 k5)
   ·rw [if_neg hc];exact ih (fun z hz=>hm z (by simp [hz])) h0 hn hu
 obtain ⟨b1,u1⟩:=hH E.hs (fun h hh=>hh) h0 hn hu;obtain ⟨cH,_,_⟩:=Dj g hx p E.hs (fun h hh=>hh) h0 hn;generalize Lr.handlers E.T E.hi (p:Int) x.locals E.hs s=H at *;obtain ⟨t,b⟩:=H;simp only at b1 u1 cH ⊢;rw [if_neg (by simp [b1])];obtain ⟨zr,hzr⟩:=sz.rl;obtain ⟨y,hr,_⟩:=g.mono p hp x z zr hx iz hl hzr;have iy:=g.rl p hp x y hx hr;unfold Lr.after;rw [hr];simp only;have nt:t.sp.length=E.n:=cH.len.trans hn;have h2:Lr.Ok E (if Ck.jumps (E.op p)=true then Lr.to E.T (E.ar p) y true t else t)∧(if Ck.jumps (E.op p)=true then Lr.to E.T (E.ar p) y true t else t).sp.length=E.n∧Lr.Under E F (if Ck.jumps (E.op p)=true then Lr.to E.T (E.ar p) y true t else t):=by
  split
  ·next hj =>
   obtain ⟨k1,k2,_,v,k4,k5⟩:=key (.jmp y hr hj);have c:=Fl g cH.ok nt iy k1 k2 true;exact ⟨c.ok,c.len.trans nt,Hi g hF.inv cH.ok nt u1 iy k1 k2 true k4 k5⟩
  ·exact ⟨cH.ok,nt,u1⟩
 by_cases hg:Ck.goes (E.op p)=false
 ·rw [if_pos hg];exact h2.2.2
 ·rw [if_neg hg];obtain ⟨k1,k2,_,v,k4,k5⟩:=key (.nxt y hr (by simpa using hg));rw [if_neg (by omega)];exact Hi g hF.inv h2.1 h2.2.1 h2.2.2 iy k1 k2 false k4 k5
structure Lr.J (E:Ls.Env) (s:Lr.S):Prop where
 ok:Lr.Ok E s
 len:s.sp.length=E.n
 pl:∀ q,(s.at q).on=true→q∈E.ps
 why:∀ q,(s.at q).aim=true→∃ p∈E.ps,(s.at p).on=true∧Ls.Aim E p q
 x0:∃ y,s.F 0=some y∧Ls.LeF E.T E.x0 y
def Lr.Shut (E:Ls.Env) (s:Lr.S) (p:Nat):Prop:=(∃ y,E.rl p (s.at p).fr=some y)∧∀ q y a,Ls.Goes E p (s.at p).fr q y a→0≤q∧q < (E.n:Int)∧(y.stack.length:Int)≤E.hi∧(∃ z,s.F q.toNat=some z∧Ls.LeF E.T y z)∧(a=true→(s.at q.toNat).aim=true)
theorem Uz {E:Ls.Env} (g:E.Good) {p:Nat} (hp:p∈E.ps) {s:Lr.S} (h:Lr.J E s) (hon:(s.at p).on=true) (hf:(Lr.from E p s).fine=true):Lr.J E (Lr.from E p s)∧((Lr.from E p s).ch=false→Lr.Shut E (Lr.from E p s) p):=by
 obtain ⟨c,d⟩:=Mr g hp h.ok h.len hon;obtain ⟨d1,d2⟩:=d hf;refine ⟨⟨c.ok,c.len.trans h.len,fun q hq=>?_,fun q hq=>?_,?_⟩,fun hc=>?_⟩
 ·rcases c.on q hq with h1 | ⟨q',y,a,hg,rfl⟩
  ·exact h.pl q h1
  ·exact Pv g hp hg (d2 _ _ _ hg).2.1
 ·rcases c.why q hq with h1 | ⟨q',y,hg,rfl⟩
  ·obtain ⟨r,r1,r2,r3⟩:=h.why q h1;exact ⟨r,r1,(c.up r r2).1,r3⟩
  ·exact ⟨p,hp,(c.up p hon).1,Ny hg⟩
 ·obtain ⟨y,hy,hl⟩:=h.x0;obtain ⟨e1,rfl⟩:=Bx.1 hy;obtain ⟨k1,k2⟩:=c.up 0 e1;exact ⟨_,Bx.2 ⟨k1,rfl⟩,hl.trans g k2 g.x0.arg ((h.ok 0).1 e1).arg ((c.ok 0).1 k1).arg⟩
 ·have es:=(c.same hc).2;have eat:∀ i,(Lr.from E p s).at i=s.at i:=fun i=>by unfold Lr.S.at;rw [es]
  unfold Lr.Shut;rw [eat p];exact ⟨d1,fun q y a hg=>by obtain ⟨m1,m2,m3⟩:=d2 q y a hg;obtain ⟨n1,n2⟩:=c.told hf q y a hg;exact ⟨m1,m2,m3,n1,n2⟩⟩
theorem Ue {E:Ls.Env}{s t:Lr.S} (h:t.sp=s.sp) {p:Nat} (hs:Lr.Shut E s p):Lr.Shut E t p:=by
 have eat:∀ i,t.at i=s.at i:=fun i=>by unfold Lr.S.at;rw [h]
 have eF:∀ i,t.F i=s.F i:=fun i=>by unfold Lr.S.F;rw [eat]
 unfold Lr.Shut;simp only [eat,eF];exact hs
theorem Ip {E:Ls.Env} (g:E.Good):∀ (l:List Nat),(∀ p∈l,p∈E.ps)→∀ {s t:Lr.S},Lr.J E s→Lr.round E l s=some t →
  Lr.J E t∧Lr.nu E t≤Lr.nu E s∧(s.ch=false→t.ch=true→Lr.nu E t < Lr.nu E s)∧(t.ch=false→s.ch=false∧t.sp=s.sp∧∀ p∈l,(t.at p).on=true→Lr.Shut E t p)
 | [],_,s,t,h,e=>by
  cases e;exact ⟨h,Nat.le_refl _,fun h1 h2=>(by rw [h1] at h2;cases h2),fun h1=>⟨h1,rfl,fun p hp=>(by simp at hp)⟩⟩
 | p :: r,hl,s,t,h,e=>by
  have hp:=hl p (by simp);unfold Lr.round at e;by_cases hon:(s.at p).on=true
  ·rw [if_pos hon] at e;by_cases hf:(Lr.from E p s).fine=false
   ·rw [if_pos hf] at e;cases e
   ·rw [if_neg hf] at e;obtain ⟨j1,j2⟩:=Uz g hp h hon (by simpa using hf);obtain ⟨c,_⟩:=Mr g hp h.ok h.len hon;obtain ⟨i1,i2,i3,i4⟩:=Ip g r (fun z hz=>hl z (by simp [hz])) j1 e;have cn:=c.nu;refine ⟨i1,by omega,fun h1 h2=>?_,fun h1=>?_⟩
    ·cases e1:(Lr.from E p s).ch with
     | true=>have:=cn.2 h1 e1;omega
     | false=>have:=i3 e1 h2;omega
    ·obtain ⟨k1,k2,k3⟩:=i4 h1;obtain ⟨m1,m2⟩:=c.same k1;refine ⟨m1,k2.trans m2,fun z hz hzo=>?_⟩;rcases List.mem_cons.1 hz with rfl | hz
     ·exact Ue k2 (j2 k1)
     ·exact k3 z hz hzo
  ·rw [if_neg hon] at e;obtain ⟨i1,i2,i3,i4⟩:=Ip g r (fun z hz=>hl z (by simp [hz])) h e;refine ⟨i1,i2,i3,fun h1=>?_⟩;obtain ⟨k1,k2,k3⟩:=i4 h1;refine ⟨k1,k2,fun z hz hzo=>?_⟩;rcases List.mem_cons.1 hz with rfl | hz
   ·have:t.at z=s.at z:=by unfold Lr.S.at;rw [k2]
    rw [this] at hzo;exact absurd hzo hon
   ·exact k3 z hz hzo
theorem Lj {E:Ls.Env} (g:E.Good) {F:Nat→Option Ck.Fr} (hF:Ls.Sol E F):∀ (l:List Nat),(∀ p∈l,p∈E.ps)→∀ {s:Lr.S},Lr.J E s→Lr.Under E F s→∃ t,Lr.round E l s=some t∧Lr.Under E F t
 | [],_,s,_,hu=>⟨s,rfl,hu⟩
 | p :: r,hl,s,h,hu=>by
  have hp:=hl p (by simp);unfold Lr.round;by_cases hon:(s.at p).on=true
  ·rw [if_pos hon];have u1:=Qn g hF hp h.ok h.len hon hu;rw [if_neg (by simp [u1.1])];exact Lj g hF r (fun z hz=>hl z (by simp [hz])) (Uz g hp h hon u1.1).1 u1
  ·rw [if_neg hon];exact Lj g hF r (fun z hz=>hl z (by simp [hz])) h hu
theorem Yk {E:Ls.Env}{s:Lr.S} (h:Lr.J E s):Lr.J E s.calm:=⟨h.ok,h.len,h.pl,h.why,h.x0⟩
theorem Gk {E:Ls.Env} (g:E.Good):∀ (k:Nat) {s:Lr.S},Lr.J E s→Lr.nu E s < k →
  (∀ t,Lr.rounds E k s=some t→Lr.J E t∧∀ p∈E.ps,(t.at p).on=true→Lr.Shut E t p)∧(∀ F,Ls.Sol E F→Lr.Under E F s→∃ t,Lr.rounds E k s=some t∧Lr.Under E F t)
 | 0,s,_,h=>absurd h (by omega)
 | k+1,s,h,hk=>by
  unfold Lr.rounds;have hc:=Yk h
  constructor
  ·intro t e;cases er:Lr.round E E.ps s.calm with
   | none=>rw [er] at e;cases e
   | some u =>
    rw [er] at e;simp only at e;obtain ⟨i1,i2,i3,i4⟩:=Ip g E.ps (fun _ h=>h) hc er;by_cases hch:u.ch=false
    ·rw [if_pos hch] at e;cases e;exact ⟨i1,(i4 hch).2.2⟩
    ·rw [if_neg hch] at e;have:Lr.nu E u < Lr.nu E s:=i3 rfl (by simpa using hch);exact (Gk g k i1 (by omega)).1 t e
  ·intro F hF hu;obtain ⟨u,er,uu⟩:=Lj g hF E.ps (fun _ h=>h) hc (show Lr.Under E F s.calm from hu);rw [er];simp only;obtain ⟨i1,i2,i3,i4⟩:=Ip g E.ps (fun _ h=>h) hc er;by_cases hch:u.ch=false
   ·rw [if_pos hch];exact ⟨u,rfl,uu⟩
   ·rw [if_neg hch];have:Lr.nu E u < Lr.nu E s:=i3 rfl (by simpa using hch);exact (Gk g k i1 (by omega)).2 F hF uu
def Lr.init (E:Ls.Env):Lr.S:=⟨List.replicate E.n Lr.z,false,true⟩
theorem Ga (E:Ls.Env) (q:Nat):(Lr.init E).at q=Lr.z:=by
 unfold Lr.init Lr.S.at;rw [List.getD_eq_getElem?_getD,List.getElem?_replicate]
 split <;> rfl
theorem Ns (E:Ls.Env):Lr.Ok E (Lr.init E):=fun q=>by rw [Ga];exact ⟨fun h=>(by cases h),fun h=>(by cases h)⟩
theorem Wb (E:Ls.Env):Lr.nu E (Lr.init E)=E.n * (Ls.K E.T E.lo E.hi+1):=by
 unfold Lr.nu Lr.init;have:∀ n:Nat,((List.replicate n Lr.z).map (Lr.cost E)).sum=n * (Ls.K E.T E.lo E.hi+1):=by
  intro n
  induction n with
  | zero=>simp
  | succ k ih=>rw [List.replicate_succ,List.map_cons,List.sum_cons,ih,Nat.succ_mul];simp [Lr.cost,Lr.z];omega
 exact this _
def Lr.found (E:Ls.Env) (most:Nat):Option Lr.S:=Lr.rounds E most (Lr.to E.T 0 E.x0 false (Lr.init E))
theorem I8 {E:Ls.Env} (g:E.Good) {most:Nat} (hm:E.n * (Ls.K E.T E.lo E.hi+1) < most) :
  (∀ t,Lr.found E most=some t→t.sp.length=E.n∧Lr.Ok E t∧Ls.Sol E t.F∧(∀ q,t.F q ≠ none→q∈E.ps)∧(∀ q,(t.at q).aim=true↔∃ p∈E.ps,t.F p ≠ none∧Ls.Aim E p q)) ∧
  (∀ F,Ls.Sol E F→∃ t,Lr.found E most=some t∧∀ p x,t.F p=some x→∃ y,F p=some y∧Ls.LeF E.T x y):=by
 have hz:0 < E.n:=g.lt 0 g.zero;have il:(Lr.init E).sp.length=E.n:=by simp [Lr.init]
 have c:=Fl g (Ns E) il g.x0 (q:=0) (by omega) (by omega) false;have hfine:(Lr.to E.T 0 E.x0 false (Lr.init E)).fine=true:=by
  unfold Lr.to Lr.comes;rw [Ga,if_pos (show Lr.z.on=false from rfl)];rfl
 have J0:Lr.J E (Lr.to E.T 0 E.x0 false (Lr.init E)):=by
  refine ⟨c.ok,c.len.trans il,fun q hq=>?_,fun q hq=>?_,?_⟩
  ·rcases c.on q hq with h | ⟨q',y,a,⟨rfl,_,_⟩,rfl⟩
   ·rw [Ga] at h;cases h
   ·exact g.zero
  ·rcases c.why q hq with h | ⟨q',y,⟨_,_,h⟩,_⟩
   ·rw [Ga] at h;cases h
   ·cases h
  ·exact (c.told hfine 0 E.x0 false ⟨rfl,rfl,rfl⟩).1
 have hnu:Lr.nu E (Lr.to E.T 0 E.x0 false (Lr.init E)) < most:=by
  have h1:=c.nu.1;rw [Wb] at h1;omega
 obtain ⟨r1,r2⟩:=Gk g most J0 hnu;refine ⟨fun t ht=>?_,fun F hF=>?_⟩
 ·obtain ⟨j,sh⟩:=r1 t ht;refine ⟨j.len,j.ok,⟨fun p x hx=>?_,j.x0,fun p hp x hx=>?_⟩,fun q hq=>?_,fun q=>⟨fun hq=>?_,?_⟩⟩
  ·obtain ⟨e1,rfl⟩:=Bx.1 hx;exact (j.ok p).1 e1
  ·obtain ⟨e1,rfl⟩:=Bx.1 hx;obtain ⟨s1,s2⟩:=sh p hp e1;exact ⟨s1,fun q y a hg=>by obtain ⟨t1,t2,t3,t4,_⟩:=s2 q y a hg;exact ⟨t1,t2,t3,t4,fun _=>trivial⟩⟩
  ·cases e:t.F q with
   | none=>exact absurd e hq
   | some x=>exact j.pl q (Bx.1 e).1
  ·obtain ⟨p,h1,h2,h3⟩:=j.why q hq;exact ⟨p,h1,by rw [Bx.2 ⟨h2,rfl⟩];simp,h3⟩
  ·rintro ⟨p,h1,h2,h3⟩;have e1:(t.at p).on=true:=by
    cases e:t.F p with
    | none=>exact absurd e h2
    | some x=>exact (Bx.1 e).1
   obtain ⟨⟨y,hy⟩,s2⟩:=sh p h1 e1;rcases h3 with ⟨h,hm,hc,rfl⟩ | ⟨hj,rfl⟩
   ·exact (s2 _ _ _ (.hnd h hm hc)).2.2.2.2 rfl
   ·exact (s2 _ _ _ (.jmp y hy hj)).2.2.2.2 rfl
 ·obtain ⟨y,hy,hl⟩:=hF.x0;have u0:Lr.Under E F (Lr.init E):=⟨rfl,fun q hq=>by rw [Ga] at hq;cases hq⟩;have u1:=Hi g hF.inv (Ns E) il u0 g.x0 (q:=0) (by omega) (by omega) false hy hl;obtain ⟨t,e,ut⟩:=r2 F hF u1;exact ⟨t,e,fun p x hx=>by obtain ⟨e1,rfl⟩:=Bx.1 hx;exact ut.2 p e1⟩
theorem Qj {E:Ls.Env} (g:E.Good) {bh:Cd.Ins→Ck.Fr→Option Ck.Fr}{L:List Cd.Ins} (hL:∀ i∈L,∃ p,Ls.Ins E bh i p) (hA:∀ p∈E.ps,∃ i∈L,i.place=(p:Int)) {most:Nat} (hm:E.n * (Ls.K E.T E.lo E.hi+1) < most) :
  ((Ls.found E bh L).hop=true↔Lr.found E most=none)∧∀ t,Lr.found E most=some t→(Ls.found E bh L).hop=false∧∀ q,(Ls.found E bh L).F q=t.F q∧((Ls.found E bh L).at q).wa=(t.at q).aim:=by
 obtain ⟨_,_,p3,p4⟩:=Dg g hL hA;obtain ⟨q1,q2⟩:=I8 g hm;have two:∀ t,Lr.found E most=some t→(Ls.found E bh L).hop=false∧∀ q,(Ls.found E bh L).F q=t.F q∧((Ls.found E bh L).at q).wa=(t.at q).aim:=by
  intro t ht;obtain ⟨_,_,s1,s2,s3⟩:=q1 t ht;obtain ⟨h1,h2⟩:=p4 _ s1;obtain ⟨r1,r2,r3⟩:=p3 h1;obtain ⟨t',ht',h3⟩:=q2 _ r1;rw [ht] at ht';cases ht';have eF:=Qp g r1 s1 h2 h3;refine ⟨h1,fun q=>⟨eF q,?_⟩⟩;have hiff:((Ls.found E bh L).at q).wa=true↔(t.at q).aim=true:=by
   rw [r3 q,s3 q];simp only [eF]
  cases hw:((Ls.found E bh L).at q).wa with
  | true=>exact (hiff.1 hw).symm
  | false =>
   cases ha:(t.at q).aim with
   | false=>rfl
   | true=>rw [hiff.2 ha] at hw;cases hw
 refine ⟨⟨fun h=>?_,fun h=>?_⟩,two⟩
 ·cases e:Lr.found E most with
  | none=>rfl
  | some t=>rw [(two t e).1] at h;cases h
 ·cases e:(Ls.found E bh L).hop with
  | true=>rfl
  | false =>
   obtain ⟨t,ht,_⟩:=q2 _ (p3 e).1;rw [h] at ht;cases ht
def Ls.env (cs:List Rd.Cls) (ms:List Rd.Mth) (m:Rd.Mth):Ls.Env :=
 ⟨Tr.tree cs,m.locals.toNat,m.stack,Ck.isN m.code,m.code.length,Cd.places m.code,m.handlers,Ck.mRule cs ms m,fun p=>m.code.getD p 0,fun p=>Cd.atI m.code ((p:Int)+1),Ck.mStart m⟩
theorem Jc (c:List Int):∀ (k p0:Nat),c.length≤p0+k→∀ q∈Cd.starts c k p0,q+Cd.wd (c.getD q 0) < c.length→q+Cd.wd (c.getD q 0)∈Cd.starts c k p0
 | 0,p0,_,q,hq,_=>by simp [Cd.starts] at hq
 | k+1,p0,hk,q,hq,hl=>by
  unfold Cd.starts at hq ⊢;by_cases hp:p0 < c.length
  ·rw [if_pos hp] at hq ⊢;have hw:=Cd.wd_bd (c.getD p0 0);rcases List.mem_cons.1 hq with rfl | hq
   ·refine List.mem_cons_of_mem _ ?_;obtain ⟨j,rfl⟩:∃ j,k=j+1:=⟨k - 1,by omega⟩;unfold Cd.starts;rw [if_pos hl];exact List.mem_cons_self ..
   ·exact List.mem_cons_of_mem _ (Jc c k _ (by omega) q hq hl)
  ·rw [if_neg hp] at hq;simp at hq
theorem Jo {c:List Int}{q:Nat} (hq:q∈Cd.places c) (hl:q+Cd.wd (c.getD q 0) < c.length):q+Cd.wd (c.getD q 0)∈Cd.places c:=Jc c c.length 0 (by omega) q hq hl
theorem H9 {c:List Int}{q:Nat} (hq:q∈Cd.places c):q < c.length:=by
 have hb:Cd.begB c (q:Int)=true:=by unfold Cd.begB;rw [List.any_eq_true];exact ⟨q,hq,by simp⟩
 have:=Eh hb;omega
theorem Jr {c:List Int} (h:0 < c.length):0∈Cd.places c:=by
 unfold Cd.places;obtain ⟨j,hj⟩:∃ j,c.length=j+1:=⟨c.length - 1,by omega⟩;rw [hj];unfold Cd.starts;rw [if_pos h];exact List.mem_cons_self ..
theorem Si {cs:List Rd.Cls}{ms:List Rd.Mth} (k:Fm.Ok cs ms) {m:Rd.Mth} (hm:m∈ms) {p:Nat} (hp:p∈Cd.places m.code) {x y z:Ck.Fr} (hx:Ck.P (Tr.tree cs) m x) (hy:Ck.P (Tr.tree cs) m y) (h:Ls.LeF (Tr.tree cs) x y) (hz:Ck.mRule cs ms m p y=some z):∃ u,Ck.mRule cs ms m p x=some u∧Ls.LeF (Tr.tree cs) u z:=by
 have g:=k.mt m hm;have hn:=Ke g hp;unfold Ck.mRule at hz ⊢;rw [Gs] at hz ⊢;unfold Ck.rule at hz ⊢;obtain ⟨z1,hz1,hz2⟩:=Option.bind_eq_some_iff.1 hz;obtain ⟨u,hu1,hu2⟩:=Rb (want:=Rf.all (Tr.tree cs) (Rf.given ++ cs) (Cd.atI m.code ((p:Int)+1)).toNat) k.ok (D9 hx) (D9 hy) (Mq k hm hn) (fun t ht=>(Cj (H6 k.fl _ _ t ht)).1) h hz1;by_cases hl:(z1.stack.length:Int)≤m.stack
 ·rw [if_pos hl] at hz2;cases hz2;refine ⟨u,?_,hu2⟩;rw [hu1];show (if (u.stack.length:Int)≤m.stack then some u else none)=some u
  rw [if_pos (by rw [hu2.st.len];exact hl)]
 ·rw [if_neg hl] at hz2;cases hz2
theorem X3 {T:List Int}{c:List Int}{h:Rd.Hnd} (hb:Cd.hndBad T c h=false):Cd.begB c h.target=true∧Tr.hasB T h.cl=true:=by
 unfold Cd.hndBad at hb;simp only [Bool.or_eq_false_iff,Bool.not_eq_eq_eq_not,Bool.not_false] at hb;exact ⟨hb.1.1.1.2,hb.1.2⟩
theorem Df {cs:List Rd.Cls}{ms:List Rd.Mth} (k:Fm.Ok cs ms) {m:Rd.Mth} (hm:m∈ms) (hc:0 < m.code.length):(Ls.env cs ms m).Good:=by
 have g:=k.mt m hm;refine ⟨k.ok,Fo g,fun p hp x y hx h=>Ew k hm hp hx h,fun p hp x y z hx hy h hz=>Si k hm hp hx hy h hz,fun p hp hj=>?_,fun p hp hn=>?_,fun h hh=>?_,Jr hc,fun p hp=>H9 hp⟩
 ·have ha:=g.arg p hp;unfold Cd.argAt at ha;rw [Lf] at ha;show 0≤Cd.atI m.code ((p:Int)+1)∧Cd.atI m.code ((p:Int)+1) < (m.code.length:Int)∧(Cd.atI m.code ((p:Int)+1)).toNat∈Cd.places m.code;have hj':Ck.jumps (m.code.getD p 0)=true:=hj;generalize m.code.getD p 0=op at *;unfold Ck.jumps at hj';have hop:op=11∨op=12∨op=13∨op=14:=by simpa using hj'
  unfold Cd.argB at ha;rw [if_neg (by omega),if_pos (by omega)] at ha;have h1:=Eh ha;have h2:=Jw ha;exact ⟨by omega,by omega,h2⟩
 ·have hn':(p:Int)+(Cd.wd (m.code.getD p 0):Int) < (m.code.length:Int):=hn;have:=Jo hp (by omega);show ((p:Int)+(Cd.wd (m.code.getD p 0):Int)).toNat∈Cd.places m.code;rw [show ((p:Int)+(Cd.wd (m.code.getD p 0):Int)).toNat=p+Cd.wd (m.code.getD p 0) by omega];exact this
 ·obtain ⟨h1,h2⟩:=X3 (g.hnd h hh);have h3:=Eh h1;have h4:=Jw h1;exact ⟨by omega,(by show h.target < (m.code.length:Int);omega),h4,Cw (Dw.1 h2)⟩
theorem Xb {cs:List Rd.Cls}{ms:List Rd.Mth} (k:Fm.Ok cs ms) {m:Rd.Mth} (hm:m∈ms) {p:Nat} (hp:p∈Cd.places m.code):Ls.Ins (Ls.env cs ms m) (Pk.mBehind cs ms m) (Cd.insAt m.code p) p:=by
 have g:=k.mt m hm;obtain ⟨h25,hw⟩:=Cr g.unread p hp;refine ⟨hp,rfl,rfl,fun hj=>?_,fun x hx=>Es k hm hp hx⟩;have hj':Ck.jumps (m.code.getD p 0)=true:=hj;have h2:Cd.wd (m.code.getD p 0)=2:=by
  generalize m.code.getD p 0=op at *;unfold Ck.jumps at hj';have hop:op=11∨op=12∨op=13∨op=14:=by simpa using hj'
  unfold Cd.wd;rw [if_pos (by omega)]
 exact (Hn hw h2).1
theorem Kg {T:List Int}{nf:Int}{ms:List Rd.Mth}{m:Rd.Mth} (g:Fm.Good T nf ms m):Cd.readL m.code=(Cd.places m.code).map (Cd.insAt m.code):=by
 have:=g.unread;unfold Cd.readL;rw [if_neg (by omega)];rfl
theorem Dr {cs:List Rd.Cls}{ms:List Rd.Mth} (k:Fm.Ok cs ms) {m:Rd.Mth} (hm:m∈ms):(∀ i∈Cd.readL m.code,∃ p,Ls.Ins (Ls.env cs ms m) (Pk.mBehind cs ms m) i p)∧∀ p∈(Ls.env cs ms m).ps,∃ i∈Cd.readL m.code,i.place=(p:Int):=by
 rw [Kg (k.mt m hm)]
 constructor
 ·intro i hi;obtain ⟨p,hp,rfl⟩:=List.mem_map.1 hi;exact ⟨p,Xb k hm hp⟩
 ·intro p hp;exact ⟨Cd.insAt m.code p,List.mem_map.2 ⟨p,hp,rfl⟩,rfl⟩
def Ls.state (cs:List Rd.Cls) (ms:List Rd.Mth) (m:Rd.Mth):Ls.S:=Ls.found (Ls.env cs ms m) (Pk.mBehind cs ms m) (Cd.readL m.code)
def Ls.mapsFor (cs:List Rd.Cls) (ms:List Rd.Mth) (m:Rd.Mth):Option (List Rd.Mp):=if (Ls.state cs ms m).hop=true then none else some (Ls.mapsOf 0 (Ls.state cs ms m).sp)
def Rd.Mon {α:Type} (f:Rd.St→α × Rd.St):Prop:=∀ t,t.bad=true→(f t).2.bad=true
theorem Cs (s:List UInt8):Rd.Mon (Rd.nx s):=fun t h=>by unfold Rd.nx;rw [if_pos h]
theorem Gb (s:List UInt8) (a b:Int):Rd.Mon (Rd.cn s a b):=fun t h=>by
 unfold Rd.cn
 split
 ·rfl
 ·split
  ·rfl
  ·exact Cs s t h
theorem Ul (s:List UInt8):Rd.Mon (Rd.ty s):=fun t h=>Cs s _ (Cs s t h)
theorem Ek {α:Type}{f:Rd.St→α × Rd.St} (hf:Rd.Mon f):∀ (n:Nat) (t:Rd.St),t.bad=true→(Rd.rep f n t).2.bad=true
 | 0,_,h=>h
 | n+1,t,h=>hf _ (Ek hf n t h)
theorem Lg (s:List UInt8) (n:Nat):Rd.Mon (Rd.tys s n):=fun t h=>Ek (Ul s) n t h
theorem W9 (s:List UInt8):Rd.Mon (Rd.hnd s):=fun t h=>Cs s _ (Cs s _ (Cs s _ (Cs s t h)))
theorem Nh (s:List UInt8):Rd.Mon (Rd.hnds s):=fun t h=>Ek (W9 s) _ _ (Gb s 0 4 t h)
theorem Yf (s:List UInt8) (L H:Int):Rd.Mon (Rd.mp s L H):=fun t h=>Lg s _ _ (Gb s 0 H _ (Lg s _ _ (Cs s t h)))
theorem Ux (s:List UInt8):Rd.Mon (Rd.codes s):=fun t h=>Ek (Cs s) _ _ (Gb s 1 120 t h)
theorem Sk (s:List UInt8) (t:Rd.St) (h:(Rd.codes s t).2.bad=false):0 < (Rd.codes s t).1.length:=by
 unfold Rd.codes at h ⊢;simp only at h ⊢;rw [Rd.rep_len];by_cases hc:(Rd.cn s 1 120 t).2.bad=true
 ·rw [Ek (Cs s) _ _ hc] at h;cases h
 ·unfold Rd.cn at hc ⊢
  split at hc
  ·exact absurd rfl hc
  ·split at hc
   ·exact absurd rfl hc
   ·next h1 h2=>rw [if_neg h1,if_neg h2];omega
theorem Qa (s:List UInt8) (L H:Int):Rd.Mon (Rd.mps s L H):=fun t h=>Ek (Yf s L H) _ _ (Gb s 0 64 t h)
theorem Lc (s:List UInt8):Rd.Mon (Rd.mth s):=fun t h=>by
 unfold Rd.mth;exact Qa s _ _ _ (Nh s _ (Ux s _ (Gb s 0 8 _ (Gb s 0 8 _ (Ul s _ (Lg s _ _ (Gb s 0 4 _ (Cs s _ (Cs s t h)))))))))
theorem Nr (s:List UInt8) (t:Rd.St) (h:(Rd.mth s t).2.bad=false):0 < (Rd.mth s t).1.code.length:=by
 unfold Rd.mth at h ⊢;simp only at h ⊢;refine Sk s _ ?_;generalize Rd.codes s _=c at h ⊢;cases hc:c.2.bad with
 | false=>rfl
 | true=>rw [Qa s _ _ _ (Nh s _ hc)] at h;cases h
theorem Nv (s:List UInt8):∀ (n:Nat) (t:Rd.St),(Rd.rep (Rd.mth s) n t).2.bad=false→∀ m∈(Rd.rep (Rd.mth s) n t).1,0 < m.code.length
 | 0,_,_,m,hm=>by simp [Rd.rep] at hm
 | n+1,t,h,m,hm=>by
  unfold Rd.rep at h hm;simp only at h hm;rcases List.mem_append.1 hm with hm | hm
  ·refine Nv s n t ?_ m hm;cases hc:(Rd.rep (Rd.mth s) n t).2.bad with
   | false=>rfl
   | true=>rw [Lc s _ hc] at h;cases h
  ·rw [List.mem_singleton.1 hm];exact Nr s _ h
theorem Dv (s:List UInt8) (h:(Rd.read s).2=0):∀ m∈(Rd.read s).1.methods,0 < m.code.length:=by
 unfold Rd.read at h ⊢
 split
 ·simp
 ·next h1 =>
  rw [if_neg h1] at h
  split
  ·simp
  ·next h2 =>
   rw [if_neg h2] at h;simp only [Rd.fil] at h2 ⊢;refine Nv s _ _ ?_;generalize (Rd.rep (Rd.mth s) _ _).2=t at *;cases hb:t.bad with
   | false=>rfl
   | true=>exact absurd (.inl hb) h2
end Go.Proofs.YtcefiamkoincoaaGreat
