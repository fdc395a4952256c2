/- a part of the proof in YtcefiamkoincoaaGreatFoundProof -/
import Derived.Test.YtcefiamkoincoaaGreatPk21
set_option maxRecDepth 100000
set_option maxHeartbeats 40000000
set_option linter.unusedVariables false
set_option linter.unusedSimpArgs false
namespace Go.Proofs.YtcefiamkoincoaaGreat
open Go.RowKit
structure Ls.J (E:Ls.Env) (s:Ls.S):Prop where
 ok:E.Ok s
 len:s.sp.length=E.n
 sat:s.hop=false→∀ p∈E.ps,(s.at p).st=true→(s.at p).ri=false→(∃ y,E.rl p (s.at p).fr=some y)∧∀ q y a,Ls.Goes E p (s.at p).fr q y a→Ls.Told E s q y a
 pl:∀ q,(s.at q).st=true→q∈E.ps
 why:∀ q,(s.at q).wa=true→∃ p∈E.ps,(s.at p).st=true∧Ls.Aim E p q
 x0:s.hop=false→∃ y,s.F 0=some y∧Ls.LeF E.T E.x0 y
abbrev Ls.lk (E:Ls.Env) (bh:Cd.Ins→Ck.Fr→Option Ck.Fr) (i:Cd.Ins) (x:Ck.Fr) (s:Ls.S):Ls.S:=Ls.look E.T E.hi E.hs bh i x s
theorem Aal {E:Ls.Env} (g:E.Good) {bh:Cd.Ins→Ck.Fr→Option Ck.Fr}{i:Cd.Ins}{p:Nat} (hi:Ls.Ins E bh i p) {s:Ls.S} (h:Ls.J E s) (hr:(s.at p).ri=true):Ls.J E (Ls.lk E bh i (s.at p).fr (s.calm p)):=by
 have hp:p < s.sp.length:=by rw [h.len];exact g.lt p hi.mem
 have hst:(s.at p).st=true:=(h.ok _ (Ls.at_mem hp)).2 hr;have hx:=Dk h.ok hst;obtain ⟨c1,c2,_⟩:=Ls.calm_le (K:=0) h.ok hp hr;have hn:(s.calm p).sp.length=E.n:=c2.trans h.len;obtain ⟨c,cr⟩:=Tj g hi hx c1 hn;generalize hs':Ls.lk E bh i (s.at p).fr (s.calm p)=s' at *;change Ls.look E.T E.hi E.hs bh i (s.at p).fr (s.calm p)=s' at hs';rw [hs'] at c cr;have cst:∀ j,((s.calm p).at j).st=(s.at j).st:=fun j=>by rw [Gc s hp];split <;> rename_i e <;> simp [e]
 have cfr:∀ j,((s.calm p).at j).fr=(s.at j).fr:=fun j=>by rw [Gc s hp];split <;> rename_i e <;> simp [e]
 have cwa:∀ j,((s.calm p).at j).wa=(s.at j).wa:=fun j=>by rw [Gc s hp];split <;> rename_i e <;> simp [e]
 have cF:∀ j,(s.calm p).F j=s.F j:=fun j=>by unfold Ls.S.F;rw [cst,cfr]
 have ps':(s'.at p).st=true:=(c.up.st p (by rw [cst];exact hst)).1;refine ⟨c.up.ok,c.up.len.trans hn,fun hh r hrp hrs hrr=>?_,fun q hq=>?_,fun q hq=>?_,fun hh=>?_⟩
 ·obtain ⟨u1,u2,u3⟩:=c.up.ri r hrr;rw [u2,cfr];by_cases e:r=p
  ·subst e;exact ⟨cr hh,fun q y a hg=>c.told hh q y a hg⟩
  ·have hop:(s.calm p).hop=false:=by
    cases e:(s.calm p).hop with
    | false=>rfl
    | true=>rw [c.up.hop e] at hh;cases hh
   have rr:(s.at r).ri=false:=by rw [Gc s hp,if_neg e] at u1;exact u1
   have rs:(s.at r).st=true:=by rw [← cst,← u3];exact hrs
   obtain ⟨a1,a2⟩:=h.sat hop r hrp rs rr;refine ⟨a1,fun q y a hg=>?_⟩;have og:=Jh g hrp (Dk h.ok rs) hg;have t:=a2 q y a hg;have t':Ls.Told E (s.calm p) q y a:=⟨t.1,t.2.1,t.2.2.1,by rw [cF];exact t.2.2.2.1,by rw [cwa];exact t.2.2.2.2⟩;exact t'.up g c1 c.up ⟨fun t ht=>(og.2.1 t ht).1,fun t ht=>(og.2.2 t ht).1⟩
 ·rcases c.st q hq with h1 | ⟨q',y,a,hg,rfl,hlt⟩
  ·rw [cst] at h1;exact h.pl q h1
  ·exact Zi g hi.mem hg hlt
 ·rcases c.wa q hq with h1 | ⟨q',y,hg,rfl⟩
  ·rw [cwa] at h1;obtain ⟨r,hr1,hr2,hr3⟩:=h.why q h1;exact ⟨r,hr1,(c.up.st r (by rw [cst];exact hr2)).1,hr3⟩
  ·exact ⟨p,hi.mem,ps',Xh hg⟩
 ·have hop:(s.calm p).hop=false:=by
   cases e:(s.calm p).hop with
   | false=>rfl
   | true=>rw [c.up.hop e] at hh;cases hh
  obtain ⟨y,hy,hl⟩:=h.x0 hop;obtain ⟨e1,rfl⟩:=Cg.1 hy;obtain ⟨k1,k2⟩:=c.up.st 0 (by rw [cst];exact e1);rw [cfr] at k2;exact ⟨_,Cg.2 ⟨k1,rfl⟩,hl.trans g k2 g.x0.arg (Dk h.ok e1).arg (Dk c.up.ok k1).arg⟩
theorem Aab {E:Ls.Env} (g:E.Good) {F:Nat→Option Ck.Fr} (hF:Ls.Sol E F) {bh:Cd.Ins→Ck.Fr→Option Ck.Fr}{i:Cd.Ins}{p:Nat} (hi:Ls.Ins E bh i p) {s:Ls.S} (h:Ls.J E s) (hr:(s.at p).ri=true) (hu:Ls.Under E F s):Ls.Under E F (Ls.lk E bh i (s.at p).fr (s.calm p)):=by
 have hp:p < s.sp.length:=by rw [h.len];exact g.lt p hi.mem
 have hst:(s.at p).st=true:=(h.ok _ (Ls.at_mem hp)).2 hr;obtain ⟨c1,c2,_⟩:=Ls.calm_le (K:=0) h.ok hp hr;obtain ⟨z,hz,hl⟩:=hu.2 p hst;refine Sn g hF hi (Dk h.ok hst) hz hl c1 (c2.trans h.len) ⟨hu.1,fun j hj=>?_⟩;have cst:((s.calm p).at j).st=(s.at j).st:=by rw [Gc s hp];split <;> rename_i e <;> simp [e]
 have cfr:((s.calm p).at j).fr=(s.at j).fr:=by rw [Gc s hp];split <;> rename_i e <;> simp [e]
 rw [cst] at hj;rw [cfr];exact hu.2 j hj
theorem Uy {E:Ls.Env} (g:E.Good) {bh:Cd.Ins→Ck.Fr→Option Ck.Fr}:∀ (L:List Cd.Ins),(∀ i∈L,∃ p,Ls.Ins E bh i p)→∀ (b:Bool) {s:Ls.S},Ls.J E s →
  Ls.J E (Ls.pass (Ls.lk E bh) L b s).1∧(∀ F,Ls.Sol E F→Ls.Under E F s→Ls.Under E F (Ls.pass (Ls.lk E bh) L b s).1) ∧
  ((Ls.pass (Ls.lk E bh) L b s).2=false→b=false∧(Ls.pass (Ls.lk E bh) L b s).1=s∧∀ i∈L,(s.at i.place.toNat).ri=false)
 | [],_,b,s,h=>⟨h,fun _ _ hu=>hu,fun hb=>⟨hb,rfl,fun i hi=>by simp at hi⟩⟩
 | i :: r,hL,b,s,h=>by
  obtain ⟨p,hp⟩:=hL i (by simp);have ih:=fun b {s:Ls.S} h=>Uy g (bh:=bh) r (fun z hz=>hL z (by simp [hz])) b (s:=s) h;have hlt:p < s.sp.length:=by rw [h.len];exact g.lt p hp.mem
  have epl:i.place.toNat=p:=by rw [hp.pl];simp
  unfold Ls.pass
  split
  ·next hc =>
   obtain ⟨a1,a2,a3⟩:=ih b h;refine ⟨a1,a2,fun hb=>?_⟩;obtain ⟨b1,b2,b3⟩:=a3 hb;refine ⟨b1,b2,fun z hz=>?_⟩;rcases List.mem_cons.1 hz with rfl | hz
   ·rcases hc with hc | hc
    ·rw [hp.pl] at hc;omega
    ·exact hc
   ·exact b3 z hz
  ·next hc =>
   have hr:(s.at p).ri=true:=by
    cases e:(s.at p).ri with
    | true=>rfl
    | false=>exact absurd (.inr (by rw [epl];exact e)) hc
   rw [epl];obtain ⟨a1,a2,a3⟩:=ih true (Aal g hp h hr);refine ⟨a1,fun F hF hu=>a2 F hF (Aab g hF hp h hr hu),fun hb=>?_⟩;exact absurd (a3 hb).1 (by simp)
theorem Pu {E:Ls.Env} (g:E.Good) {bh:Cd.Ins→Ck.Fr→Option Ck.Fr}{L:List Cd.Ins} (hL:∀ i∈L,∃ p,Ls.Ins E bh i p) (hp:∀ i∈L,0≤i.place) {K:Nat} (hk:∀ i∈L,∀ x s,E.I x→E.Ok s→Ls.Le E.T E.lo E.hi E.isN K s (Ls.lk E bh i x s)) :
  ∀ (m:Nat) {s:Ls.S},Ls.J E s→Ls.mu E.T K s < m→Ls.J E (Ls.rounds (Ls.lk E bh) L m s)∧(∀ F,Ls.Sol E F→Ls.Under E F s→Ls.Under E F (Ls.rounds (Ls.lk E bh) L m s)) ∧
   ((Ls.rounds (Ls.lk E bh) L m s).hop=false→∀ i∈L,((Ls.rounds (Ls.lk E bh) L m s).at i.place.toNat).ri=false)
 | 0,s,_,h=>absurd h (by omega)
 | m+1,s,h,hm=>by
  obtain ⟨a1,a2,a3⟩:=Uy g (bh:=bh) L hL false h;have h1:=Hv (K:=K) L hp hk false h.ok;unfold Ls.rounds
  split
  ·next hc =>
   have:=h1.2 hc.1 rfl;obtain ⟨b1,b2,b3⟩:=Pu g hL hp hk m a1 (by omega);exact ⟨b1,fun F hF hu=>b2 F hF (a2 F hF hu),b3⟩
  ·next hc =>
   refine ⟨a1,a2,fun hh=>?_⟩;have:(Ls.pass (Ls.lk E bh) L false s).2=false:=by
    cases e:(Ls.pass (Ls.lk E bh) L false s).2 with
    | false=>rfl
    | true=>exact absurd ⟨e,hh⟩ hc
   obtain ⟨_,b2,b3⟩:=a3 this;rw [b2];exact b3
def Ls.init (E:Ls.Env):Ls.S:=⟨List.replicate E.n Ls.z,false⟩
theorem Jl (E:Ls.Env) (q:Nat):(Ls.init E).at q=Ls.z:=by
 unfold Ls.init Ls.S.at;rw [List.getD_eq_getElem?_getD,List.getElem?_replicate]
 split <;> rfl
def Ls.found (E:Ls.Env) (bh:Cd.Ins→Ck.Fr→Option Ck.Fr) (L:List Cd.Ins):Ls.S:=Ls.done E.T (Ls.K E.T E.lo E.hi) (Ls.lk E bh) L (Ls.arrive E.T E.hi E.x0 0 (Ls.init E))
theorem Ml {E:Ls.Env} (g:E.Good) {bh:Cd.Ins→Ck.Fr→Option Ck.Fr}{L:List Cd.Ins} (hL:∀ i∈L,∃ p,Ls.Ins E bh i p):∀ i∈L,∀ x s,E.I x→E.Ok s→Ls.Le E.T E.lo E.hi E.isN (Ls.K E.T E.lo E.hi) s (Ls.lk E bh i x s):=fun i hi x s hx hs=>by
 obtain ⟨p,hp⟩:=hL i hi;exact Zd g.T hx (fun h hh=>(g.hnd h hh).2.2.2) (fun y hy=>by rw [hp.rl x hx] at hy;exact g.rl p hp.mem x y hx hy) hs
theorem Rm (E:Ls.Env):E.Ok (Ls.init E):=fun p hp=>by
 have:=List.eq_of_mem_replicate hp;subst this;exact ⟨fun h=>(by cases h),fun h=>(by cases h)⟩
theorem Et {E:Ls.Env} (g:E.Good) {bh:Cd.Ins→Ck.Fr→Option Ck.Fr}{L:List Cd.Ins} (hL:∀ i∈L,∃ p,Ls.Ins E bh i p) (hA:∀ p∈E.ps,∃ i∈L,i.place=(p:Int)) :
  E.Ok (Ls.found E bh L)∧(Ls.found E bh L).sp.length=E.n∧((Ls.found E bh L).hop=false→Ls.Sol E (Ls.found E bh L).F∧(∀ q,(Ls.found E bh L).F q ≠ none→q∈E.ps)∧(∀ q,((Ls.found E bh L).at q).wa=true↔∃ p∈E.ps,(Ls.found E bh L).F p ≠ none∧Ls.Aim E p q)) ∧
  (∀ F,Ls.Sol E F→(Ls.found E bh L).hop=false∧∀ p x,(Ls.found E bh L).F p=some x→∃ y,F p=some y∧Ls.LeF E.T x y):=by
 have hz:0 < E.n:=g.lt 0 g.zero;have i0:=Rm E;have il:(Ls.init E).sp.length=E.n:=by simp [Ls.init]
 have hx0:E.x0.locals.length=E.lo∧(∀ t∈E.x0.locals,Ck.tyOk E.T E.isN t)∧∀ t∈E.x0.stack,Ck.tyOk E.T E.isN t:=⟨g.x0.lo,g.x0.tl,g.x0.ts⟩;have c:=Fh g i0 il hx0 0;have J0:Ls.J E (Ls.arrive E.T E.hi E.x0 0 (Ls.init E)):=by
  refine ⟨c.up.ok,c.up.len.trans il,fun hh p hp hs hr=>?_,fun q hq=>?_,fun q hq=>?_,fun hh=>?_⟩
  ·obtain ⟨_,_,e⟩:=c.up.ri p hr;rw [hs,Jl] at e;cases e
  ·rcases c.st q hq with h | ⟨rfl,_⟩
   ·rw [Jl] at h;cases h
   ·exact g.zero
  ·rcases c.wa q hq with h | ⟨_,h⟩
   ·rw [Jl] at h;cases h
   ·cases h
  ·exact (c.told hh).2.2.2.1
 have hpl:∀ i∈L,0≤i.place:=fun i hi=>by obtain ⟨p,hp⟩:=hL i hi;rw [hp.pl];omega
 obtain ⟨r1,r2,r3⟩:=Pu g hL hpl (Ml g hL) (Ls.mu E.T (Ls.K E.T E.lo E.hi) (Ls.arrive E.T E.hi E.x0 0 (Ls.init E))+1) J0 (by omega);change Ls.J E (Ls.found E bh L) at r1;change ∀ F,Ls.Sol E F→_→Ls.Under E F (Ls.found E bh L) at r2;change (Ls.found E bh L).hop=false→∀ i∈L,((Ls.found E bh L).at i.place.toNat).ri=false at r3;refine ⟨r1.ok,r1.len,fun hh=>⟨⟨fun p x hx=>?_,r1.x0 hh,fun p hp x hx=>?_⟩,fun q hq=>?_,fun q=>⟨fun hq=>?_,?_⟩⟩,fun F hF=>?_⟩
 ·obtain ⟨e1,rfl⟩:=Cg.1 hx;exact Dk r1.ok e1
 ·obtain ⟨e1,rfl⟩:=Cg.1 hx;obtain ⟨i,hi,hip⟩:=hA p hp;have hr:=r3 hh i hi;rw [hip] at hr;obtain ⟨s1,s2⟩:=r1.sat hh p hp e1 (by simpa using hr);exact ⟨s1,fun q y a hg=>by obtain ⟨t1,t2,t3,t4,_⟩:=s2 q y a hg;exact ⟨t1,t2,t3,t4,fun _=>trivial⟩⟩
 ·cases e:(Ls.found E bh L).F q with
  | none=>exact absurd e hq
  | some x=>exact r1.pl q (Cg.1 e).1
 ·obtain ⟨p,h1,h2,h3⟩:=r1.why q hq;exact ⟨p,h1,by rw [Cg.2 ⟨h2,rfl⟩];simp,h3⟩
 ·rintro ⟨p,h1,h2,h3⟩;have e1:((Ls.found E bh L).at p).st=true:=by
   cases e:(Ls.found E bh L).F p with
   | none=>exact absurd e h2
   | some x=>exact (Cg.1 e).1
  obtain ⟨i,hi,hip⟩:=hA p h1;have hr:=r3 hh i hi;rw [hip] at hr;obtain ⟨⟨y,hy⟩,s2⟩:=r1.sat hh p h1 e1 (by simpa using hr);rcases h3 with ⟨h,hm,hc,rfl⟩ | ⟨hj,rfl⟩
  ·exact (s2 _ _ _ (.hnd h hm hc)).2.2.2.2 rfl
  ·exact (s2 _ _ _ (.jmp y hy hj)).2.2.2.2 rfl
 ·obtain ⟨y,hy,hl⟩:=hF.x0;have u0:Ls.Under E F (Ls.init E):=⟨rfl,fun q hq=>by rw [Jl] at hq;cases hq⟩;have u1:=Gi g hF.inv i0 il u0 hx0 (q:=0) (by omega) (by omega) hy hl;have u2:=r2 F hF u1;exact ⟨u2.1,fun p x hx=>by obtain ⟨e1,rfl⟩:=Cg.1 hx;exact u2.2 p e1⟩
def Ls.env (cs:List Rd.Cls) (ms:List Rd.Mth) (m:Rd.Mth):Ls.Env :=
 ⟨Tr.tree cs,m.locals.toNat,m.stack,Ck.isN m.code,m.code.length,Cd.places m.code,m.handlers,Ck.mRule cs ms m,fun p=>m.code.getD p 0,fun p=>Cd.atI m.code ((p:Int)+1),Ck.mStart m⟩
theorem Jv (c:List Int):∀ (k p0:Nat),c.length≤p0+k→∀ q∈Cd.starts c k p0,q+Cd.wd (c.getD q 0) < c.length→q+Cd.wd (c.getD q 0)∈Cd.starts c k p0
 | 0,p0,_,q,hq,_=>by simp [Cd.starts] at hq
 | k+1,p0,hk,q,hq,hl=>by
  unfold Cd.starts at hq ⊢;by_cases hp:p0 < c.length
  ·rw [if_pos hp] at hq ⊢;have hw:=Cd.wd_bd (c.getD p0 0);rcases List.mem_cons.1 hq with rfl | hq
   ·refine List.mem_cons_of_mem _ ?_;obtain ⟨j,rfl⟩:∃ j,k=j+1:=⟨k - 1,by omega⟩;unfold Cd.starts;rw [if_pos hl];exact List.mem_cons_self ..
   ·exact List.mem_cons_of_mem _ (Jv c k _ (by omega) q hq hl)
  ·rw [if_neg hp] at hq;simp at hq
theorem Jt {c:List Int}{q:Nat} (hq:q∈Cd.places c) (hl:q+Cd.wd (c.getD q 0) < c.length):q+Cd.wd (c.getD q 0)∈Cd.places c:=Jv c c.length 0 (by omega) q hq hl
theorem Ix {c:List Int}{q:Nat} (hq:q∈Cd.places c):q < c.length:=by
 have hb:Cd.begB c (q:Int)=true:=by unfold Cd.begB;rw [List.any_eq_true];exact ⟨q,hq,by simp⟩
 have:=Ej hb;omega
theorem Kf {c:List Int} (h:0 < c.length):0∈Cd.places c:=by
 unfold Cd.places;obtain ⟨j,hj⟩:∃ j,c.length=j+1:=⟨c.length - 1,by omega⟩;rw [hj];unfold Cd.starts;rw [if_pos h];exact List.mem_cons_self ..
theorem V7 {cs:List Rd.Cls}{ms:List Rd.Mth} (k:Fm.Ok cs ms) {m:Rd.Mth} (hm:m∈ms) {p:Nat} (hp:p∈Cd.places m.code) {x y z:Ck.Fr} (hx:Ck.P (Tr.tree cs) m x) (hy:Ck.P (Tr.tree cs) m y) (h:Ls.LeF (Tr.tree cs) x y) (hz:Ck.mRule cs ms m p y=some z):∃ u,Ck.mRule cs ms m p x=some u∧Ls.LeF (Tr.tree cs) u z:=by
 have g:=k.mt m hm;have hn:=Lf g hp;unfold Ck.mRule at hz ⊢;rw [Ho] at hz ⊢;unfold Ck.rule at hz ⊢;obtain ⟨z1,hz1,hz2⟩:=Option.bind_eq_some_iff.1 hz;obtain ⟨u,hu1,hu2⟩:=Sw (want:=Rf.all (Tr.tree cs) (Rf.given ++ cs) (Cd.atI m.code ((p:Int)+1)).toNat) k.ok (D7 hx) (D7 hy) (Nd k hm hn) (fun t ht=>(Ct (I9 k.fl _ _ t ht)).1) h hz1;by_cases hl:(z1.stack.length:Int)≤m.stack
 ·rw [if_pos hl] at hz2;cases hz2;refine ⟨u,?_,hu2⟩;rw [hu1];show (if (u.stack.length:Int)≤m.stack then some u else none)=some u
  rw [if_pos (by rw [hu2.st.len];exact hl)]
 ·rw [if_neg hl] at hz2;cases hz2
theorem Aac {T:List Int}{c:List Int}{h:Rd.Hnd} (hb:Cd.hndBad T c h=false):Cd.begB c h.target=true∧Tr.hasB T h.cl=true:=by
 unfold Cd.hndBad at hb;simp only [Bool.or_eq_false_iff,Bool.not_eq_eq_eq_not,Bool.not_false] at hb;exact ⟨hb.1.1.1.2,hb.1.2⟩
theorem Ds {cs:List Rd.Cls}{ms:List Rd.Mth} (k:Fm.Ok cs ms) {m:Rd.Mth} (hm:m∈ms) (hc:0 < m.code.length):(Ls.env cs ms m).Good:=by
 have g:=k.mt m hm;refine ⟨k.ok,Gd g,fun p hp x y hx h=>Fn k hm hp hx h,fun p hp x y z hx hy h hz=>V7 k hm hp hx hy h hz,fun p hp hj=>?_,fun p hp hn=>?_,fun h hh=>?_,Kf hc,fun p hp=>Ix hp⟩
 ·have ha:=g.arg p hp;unfold Cd.argAt at ha;rw [Mi] at ha;show 0≤Cd.atI m.code ((p:Int)+1)∧Cd.atI m.code ((p:Int)+1) < (m.code.length:Int)∧(Cd.atI m.code ((p:Int)+1)).toNat∈Cd.places m.code;have hj':Ck.jumps (m.code.getD p 0)=true:=hj;generalize m.code.getD p 0=op at *;unfold Ck.jumps at hj';have hop:op=11∨op=12∨op=13∨op=14:=by simpa using hj'
  unfold Cd.argB at ha;rw [if_neg (by omega),if_pos (by omega)] at ha;have h1:=Ej ha;have h2:=Ki ha;exact ⟨by omega,by omega,h2⟩
 ·have hn':(p:Int)+(Cd.wd (m.code.getD p 0):Int) < (m.code.length:Int):=hn;have:=Jt hp (by omega);show ((p:Int)+(Cd.wd (m.code.getD p 0):Int)).toNat∈Cd.places m.code;rw [show ((p:Int)+(Cd.wd (m.code.getD p 0):Int)).toNat=p+Cd.wd (m.code.getD p 0) by omega];exact this
 ·obtain ⟨h1,h2⟩:=Aac (g.hnd h hh);have h3:=Ej h1;have h4:=Ki h1;exact ⟨by omega,(by show h.target < (m.code.length:Int);omega),h4,Df (Ek.1 h2)⟩
theorem Zh {cs:List Rd.Cls}{ms:List Rd.Mth} (k:Fm.Ok cs ms) {m:Rd.Mth} (hm:m∈ms) {p:Nat} (hp:p∈Cd.places m.code):Ls.Ins (Ls.env cs ms m) (Pk.mBehind cs ms m) (Cd.insAt m.code p) p:=by
 have g:=k.mt m hm;obtain ⟨h25,hw⟩:=Cz g.unread p hp;refine ⟨hp,rfl,rfl,fun hj=>?_,fun x hx=>Fe k hm hp hx⟩;have hj':Ck.jumps (m.code.getD p 0)=true:=hj;have h2:Cd.wd (m.code.getD p 0)=2:=by
  generalize m.code.getD p 0=op at *;unfold Ck.jumps at hj';have hop:op=11∨op=12∨op=13∨op=14:=by simpa using hj'
  unfold Cd.wd;rw [if_pos (by omega)]
 exact (H6 hw h2).1
theorem Md {T:List Int}{nf:Int}{ms:List Rd.Mth}{m:Rd.Mth} (g:Fm.Good T nf ms m):Cd.readL m.code=(Cd.places m.code).map (Cd.insAt m.code):=by
 have:=g.unread;unfold Cd.readL;rw [if_neg (by omega)];rfl
theorem Ea {cs:List Rd.Cls}{ms:List Rd.Mth} (k:Fm.Ok cs ms) {m:Rd.Mth} (hm:m∈ms):(∀ i∈Cd.readL m.code,∃ p,Ls.Ins (Ls.env cs ms m) (Pk.mBehind cs ms m) i p)∧∀ p∈(Ls.env cs ms m).ps,∃ i∈Cd.readL m.code,i.place=(p:Int):=by
 rw [Md (k.mt m hm)]
 constructor
 ·intro i hi;obtain ⟨p,hp,rfl⟩:=List.mem_map.1 hi;exact ⟨p,Zh k hm hp⟩
 ·intro p hp;exact ⟨Cd.insAt m.code p,List.mem_map.2 ⟨p,hp,rfl⟩,rfl⟩
def Ls.state (cs:List Rd.Cls) (ms:List Rd.Mth) (m:Rd.Mth):Ls.S:=Ls.found (Ls.env cs ms m) (Pk.mBehind cs ms m) (Cd.readL m.code)
def Ls.mapsFor (cs:List Rd.Cls) (ms:List Rd.Mth) (m:Rd.Mth):Option (List Rd.Mp):=if (Ls.state cs ms m).hop=true then none else some (Ls.mapsOf 0 (Ls.state cs ms m).sp)
def Rd.Mon {α:Type} (f:Rd.St→α × Rd.St):Prop:=∀ t,t.bad=true→(f t).2.bad=true
theorem Dd (s:List UInt8):Rd.Mon (Rd.nx s):=fun t h=>by unfold Rd.nx;rw [if_pos h]
theorem Gn (s:List UInt8) (a b:Int):Rd.Mon (Rd.cn s a b):=fun t h=>by
 unfold Rd.cn
 split
 ·rfl
 ·split
  ·rfl
  ·exact Dd s t h
theorem Wi (s:List UInt8):Rd.Mon (Rd.ty s):=fun t h=>Dd s _ (Dd s t h)
theorem Ev {α:Type}{f:Rd.St→α × Rd.St} (hf:Rd.Mon f):∀ (n:Nat) (t:Rd.St),t.bad=true→(Rd.rep f n t).2.bad=true
 | 0,_,h=>h
 | n+1,t,h=>hf _ (Ev hf n t h)
theorem Mm (s:List UInt8) (n:Nat):Rd.Mon (Rd.tys s n):=fun t h=>Ev (Wi s) n t h
theorem Y9 (s:List UInt8):Rd.Mon (Rd.hnd s):=fun t h=>Dd s _ (Dd s _ (Dd s _ (Dd s t h)))
theorem O7 (s:List UInt8):Rd.Mon (Rd.hnds s):=fun t h=>Ev (Y9 s) _ _ (Gn s 0 4 t h)
theorem Aai (s:List UInt8) (L H:Int):Rd.Mon (Rd.mp s L H):=fun t h=>Mm s _ _ (Gn s 0 H _ (Mm s _ _ (Dd s t h)))
theorem Um (s:List UInt8):Rd.Mon (Rd.codes s):=fun t h=>Ev (Dd s) _ _ (Gn s 1 120 t h)
theorem Ty (s:List UInt8) (t:Rd.St) (h:(Rd.codes s t).2.bad=false):0 < (Rd.codes s t).1.length:=by
 unfold Rd.codes at h ⊢;simp only at h ⊢;rw [Rd.rep_len];by_cases hc:(Rd.cn s 1 120 t).2.bad=true
 ·rw [Ev (Dd s) _ _ hc] at h;cases h
 ·unfold Rd.cn at hc ⊢
  split at hc
  ·exact absurd rfl hc
  ·split at hc
   ·exact absurd rfl hc
   ·next h1 h2=>rw [if_neg h1,if_neg h2];omega
theorem Re (s:List UInt8) (L H:Int):Rd.Mon (Rd.mps s L H):=fun t h=>Ev (Aai s L H) _ _ (Gn s 0 64 t h)
theorem Mj (s:List UInt8):Rd.Mon (Rd.mth s):=fun t h=>by
 unfold Rd.mth;exact Re s _ _ _ (O7 s _ (Um s _ (Gn s 0 8 _ (Gn s 0 8 _ (Wi s _ (Mm s _ _ (Gn s 0 4 _ (Dd s _ (Dd s t h)))))))))
theorem Oa (s:List UInt8) (t:Rd.St) (h:(Rd.mth s t).2.bad=false):0 < (Rd.mth s t).1.code.length:=by
 unfold Rd.mth at h ⊢;simp only at h ⊢;refine Ty s _ ?_;generalize Rd.codes s _=c at h ⊢;cases hc:c.2.bad with
 | false=>rfl
 | true=>rw [Re s _ _ _ (O7 s _ hc)] at h;cases h
theorem Pn (s:List UInt8):∀ (n:Nat) (t:Rd.St),(Rd.rep (Rd.mth s) n t).2.bad=false→∀ m∈(Rd.rep (Rd.mth s) n t).1,0 < m.code.length
 | 0,_,_,m,hm=>by simp [Rd.rep] at hm
 | n+1,t,h,m,hm=>by
  unfold Rd.rep at h hm;simp only at h hm;rcases List.mem_append.1 hm with hm | hm
  ·refine Pn s n t ?_ m hm;cases hc:(Rd.rep (Rd.mth s) n t).2.bad with
   | false=>rfl
   | true=>rw [Mj s _ hc] at h;cases h
  ·rw [List.mem_singleton.1 hm];exact Oa s _ h
theorem Fo (s:List UInt8) (h:(Rd.read s).2=0):∀ m∈(Rd.read s).1.methods,0 < m.code.length:=by
 unfold Rd.read at h ⊢
 split
 ·simp
 ·next h1 =>
  rw [if_neg h1] at h
  split
  ·simp
  ·next h2 =>
   rw [if_neg h2] at h;simp only [Rd.fil] at h2 ⊢;refine Pn s _ _ ?_;generalize (Rd.rep (Rd.mth s) _ _).2=t at *;cases hb:t.bad with
   | false=>rfl
   | true=>exact absurd (.inl hb) h2
variable {ya:Option Addr}{yn yc:Nat}
theorem X2 {α β γ:Type} (f:α→β→γ) (a:List α) (b:List β) (k:Nat) (h1:k < a.length) (h2:k < b.length):List.zipWith f (a.take (k+1)) (b.take (k+1))=List.zipWith f (a.take k) (b.take k) ++ [f a[k] b[k]]:=by
 rw [List.take_succ_eq_append_getElem h1,List.take_succ_eq_append_getElem h2,List.zipWith_append (by simp;omega)];rfl
theorem Bl {w w':World}{k1 k2 k3 o:Nat}{u0 u1 u2 u3 u4 u5:Value} (l1:k1 < w.heap.size) (l2:k2 < w.heap.size) (l3:k3 < w.heap.size)
  (h:w.cell? ⟨k1,0,none⟩=some u0∧w.cell? ⟨k1,1,none⟩=some u1∧w.cell? ⟨k2,0,none⟩=some u2∧w.cell? ⟨k2,1,none⟩=some u3∧w.cell? ⟨k3,o,none⟩=some u4∧w.cell? ⟨k3,o+1,none⟩=some u5) (hb:Below w.heap.size w w') :
  w'.cell? ⟨k1,0,none⟩=some u0∧w'.cell? ⟨k1,1,none⟩=some u1∧w'.cell? ⟨k2,0,none⟩=some u2∧w'.cell? ⟨k2,1,none⟩=some u3∧w'.cell? ⟨k3,o,none⟩=some u4∧w'.cell? ⟨k3,o+1,none⟩=some u5 :=
 ⟨(hb.cell l1).trans h.1,(hb.cell l1).trans h.2.1,(hb.cell l2).trans h.2.2.1,(hb.cell l2).trans h.2.2.2.1,(hb.cell l3).trans h.2.2.2.2.1,(hb.cell l3).trans h.2.2.2.2.2⟩
theorem Ig (T:List Int) (tg tc:Nat) (a b:List (Int × Int)) (aa ab:Option Addr) (an ac bn bc:Nat) (w:World) (hl:T.length≤1000) (hT:TreeIn w tg T) (ha:TyR w (.slice aa an ac) a) (hb:TyR w (.slice ab bn bc) b) (hal:a.length≤10000) (hne:a.length=b.length) :
  Calls Tryz.prog 168 #[.agg #[.slice (some ⟨tg,0,none⟩) T.length tc,.slice ya yn yc],.slice aa an ac,.slice ab bn bc] w fun e w'=>∃ ja jn jc,e=.returned (.slice ja jn jc)∧TyR w' (.slice ja jn jc) (List.zipWith (Tr.joinT T) a b)∧Below w.heap.size w w':=by
 obtain ⟨e1,-,-⟩:=ha.cap;obtain ⟨e2,-,-⟩:=hb.cap;subst e1 e2;obtain ⟨i0,hi,hz0,hz1,hz2⟩:=info_parts Tryz.infoType;have hB0:Below w.heap.size w (w.alloc (.cells #[.slice (some ⟨tg,0,none⟩) T.length tc,.slice ya yn yc] 89)):=(Below.refl _ _).alloc (Nat.le_refl _) _;have T0:=Ad w (.cells #[.slice (some ⟨tg,0,none⟩) T.length tc,.slice ya yn yc] 89);have HNE:=Ac hne;clear hne;go_enter Tryz.func168,Tryz.ntmps168;go_wp2
 go_loopw [7,13] (fun v i wr=>∃ k:Nat,k≤a.length∧i=.int .i64 (k:Int)∧wr.ownsRow (w.heap.size+1) 39 2 v k (Al (List.zipWith (Tr.joinT T) (a.take k) (b.take k)))∧Below w.heap.size w wr∧wr.heap[w.heap.size]?=some (.cells #[.slice (some ⟨tg,0,none⟩) T.length tc,.slice ya yn yc] 89 (0,0)))
  (fun _ i _=>a.length - (intOf i).toNat)
 case atStart=>exact ⟨0,by omega,rfl,World.ownsRow_nil _ _ _ _,hB0,T0⟩
 case round =>
  clear hB0 T0;obtain ⟨k,hk,rfl,hown,hB,hC⟩:=hrel;have hBs:=hB.size;have hne:=Aa HNE;obtain ⟨ua,uc,rfl⟩:=Ae hown;by_cases hkn:k < a.length
  ·have hkb:k < b.length:=by omega
   obtain ⟨g,o,rfl,hg,hat⟩:=(ha.below hB).at (by omega);obtain ⟨g2,o2,rfl,hg2,hat2⟩:=(hb.below hB).at (by omega);obtain ⟨x0,x1⟩:=hat k hkn;obtain ⟨y0,y1⟩:=hat2 k hkb;have hd:=X2 (Tr.joinT T) a b k hkn hkb;generalize a[k]=s at *;generalize b[k]=t at *;obtain ⟨s1,s2⟩:=s;obtain ⟨t1,t2⟩:=t;simp only at x0 x1 y0 y1;have f0:(wr.alloc (.cells #[.int .i64 s1,.int .i64 s2] 39)).cell? ⟨w.heap.size,0,none⟩=some (.slice (some ⟨tg,0,none⟩) T.length tc):=(Ab (Af hC (.cells #[.int .i64 s1,.int .i64 s2] 39)) 0).trans rfl;have f1:(wr.alloc (.cells #[.int .i64 s1,.int .i64 s2] 39)).cell? ⟨w.heap.size,1,none⟩=some (.slice ya yn yc):=(Ab (Af hC (.cells #[.int .i64 s1,.int .i64 s2] 39)) 1).trans rfl;have p0:(wr.alloc (.cells #[.int .i64 s1,.int .i64 s2] 39)).cell? ⟨wr.heap.size,0,none⟩=some (.int .i64 s1):=(Ab (Ad wr (.cells #[.int .i64 s1,.int .i64 s2] 39)) 0).trans rfl;have p1:(wr.alloc (.cells #[.int .i64 s1,.int .i64 s2] 39)).cell? ⟨wr.heap.size,1,none⟩=some (.int .i64 s2):=(Ab (Ad wr (.cells #[.int .i64 s1,.int .i64 s2] 39)) 1).trans rfl;have z0:=(World.cell?_alloc_lt wr (.cells #[.int .i64 s1,.int .i64 s2] 39) ⟨g2,o2+k * 2,none⟩ hg2).trans y0;have z1:=(World.cell?_alloc_lt wr (.cells #[.int .i64 s1,.int .i64 s2] 39) ⟨g2,o2+k * 2+1,none⟩ hg2).trans y1;have lF:=lt_of_block (Af hC (.cells #[.int .i64 s1,.int .i64 s2] 39));have lP:=lt_of_block (Ad wr (.cells #[.int .i64 s1,.int .i64 s2] 39));have lG:g2 < (wr.alloc (.cells #[.int .i64 s1,.int .i64 s2] 39)).heap.size:=by simp;omega
   have hBX:=(hB.alloc hBs (.cells #[.int .i64 s1,.int .i64 s2] 39)).drew;have hc:=fun w' (h:Below w.heap.size w w')=>Va (ya:=ya) (yn:=yn) (yc:=yc) T tg tc s1 s2 t1 t2 w' hl (hT.below h);generalize Tr.joinT T (s1,s2) (t1,t2)=j at *;obtain ⟨j1,j2⟩:=j;simp only at hc;have HC:=Ac hc;have HD:=Ac hd;have kb:(k:Int) < (a.length:Int):=by omega
   have kb2:(k:Int) < (b.length:Int):=by omega
   have hb1:Below wr.heap.size wr (wr.alloc (.cells #[.int .i64 s1,.int .i64 s2] 39)).drew:=((Below.refl _ wr).alloc (Nat.le_refl _) _).drew;have hF6:(wr.alloc (.cells #[.int .i64 s1,.int .i64 s2] 39)).drew.cell? ⟨w.heap.size,0,none⟩=some (.slice (some ⟨tg,0,none⟩) T.length tc)∧(wr.alloc (.cells #[.int .i64 s1,.int .i64 s2] 39)).drew.cell? ⟨w.heap.size,1,none⟩=some (.slice ya yn yc)∧(wr.alloc (.cells #[.int .i64 s1,.int .i64 s2] 39)).drew.cell? ⟨wr.heap.size,0,none⟩=some (.int .i64 s1)∧(wr.alloc (.cells #[.int .i64 s1,.int .i64 s2] 39)).drew.cell? ⟨wr.heap.size,1,none⟩=some (.int .i64 s2)∧(wr.alloc (.cells #[.int .i64 s1,.int .i64 s2] 39)).drew.cell? ⟨g2,o2+k * 2,none⟩=some (.int .i64 t1)∧(wr.alloc (.cells #[.int .i64 s1,.int .i64 s2] 39)).drew.cell? ⟨g2,o2+k * 2+1,none⟩=some (.int .i64 t2):=⟨f0,f1,p0,p1,z0,z1⟩;have Z0:((wr.alloc (.cells #[.int .i64 s1,.int .i64 s2] 39)).alloc (.cells #[.int .i64 0,.int .i64 0] 39)).drew.heap[wr.heap.size+1]?=some (.cells #[.int .i64 0,.int .i64 0] 39 (0,0)):=Ah wr (.cells #[.int .i64 s1,.int .i64 s2] 39) (.cells #[.int .i64 0,.int .i64 0] 39);have hBZ:Below (wr.alloc (.cells #[.int .i64 s1,.int .i64 s2] 39)).drew.heap.size (wr.alloc (.cells #[.int .i64 s1,.int .i64 s2] 39)).drew ((wr.alloc (.cells #[.int .i64 s1,.int .i64 s2] 39)).alloc (.cells #[.int .i64 0,.int .i64 0] 39)).drew:=⟨rfl,rfl,rfl,by simp [World.drew],fun k hk=>(((Below.refl _ (wr.alloc (.cells #[.int .i64 s1,.int .i64 s2] 39))).alloc (Nat.le_refl _) (.cells #[.int .i64 0,.int .i64 0] 39)).block k hk)⟩;have lZ:(wr.alloc (.cells #[.int .i64 s1,.int .i64 s2] 39)).drew.heap.size≤((wr.alloc (.cells #[.int .i64 s1,.int .i64 s2] 39)).alloc (.cells #[.int .i64 0,.int .i64 0] 39)).drew.heap.size:=hBZ.size;have hBX2:Below w.heap.size w ((wr.alloc (.cells #[.int .i64 s1,.int .i64 s2] 39)).alloc (.cells #[.int .i64 0,.int .i64 0] 39)).drew:=((hB.alloc hBs (.cells #[.int .i64 s1,.int .i64 s2] 39)).alloc (hB.alloc hBs (.cells #[.int .i64 s1,.int .i64 s2] 39)).size (.cells #[.int .i64 0,.int .i64 0] 39)).drew;replace lF:w.heap.size < (wr.alloc (.cells #[.int .i64 s1,.int .i64 s2] 39)).drew.heap.size:=lF;replace lP:wr.heap.size < (wr.alloc (.cells #[.int .i64 s1,.int .i64 s2] 39)).drew.heap.size:=lP;replace lG:g2 < (wr.alloc (.cells #[.int .i64 s1,.int .i64 s2] 39)).drew.heap.size:=lG;clear hat hat2 hc hne hd
   go_upto_region 6 with fail
   go_cut [10] from 14 to 33 (fun s10 wx=>∃ jb,s10=.pointer (some ⟨jb,0,none⟩)∧wx.heap[jb]?=some (.cells #[.int .i64 j1,.int .i64 j2] 39 (0,0))∧Below wr.heap.size wr wx)
   case first =>
    go_wp2
    go_region_held3 (fun w'=>w'.cell? ⟨w.heap.size,0,none⟩=some (.slice (some ⟨tg,0,none⟩) T.length tc)∧w'.cell? ⟨w.heap.size,1,none⟩=some (.slice ya yn yc)∧w'.cell? ⟨wr.heap.size,0,none⟩=some (.int .i64 s1)∧w'.cell? ⟨wr.heap.size,1,none⟩=some (.int .i64 s2)∧w'.cell? ⟨g2,o2+k * 2,none⟩=some (.int .i64 t1)∧w'.cell? ⟨g2,o2+k * 2+1,none⟩=some (.int .i64 t2))
     (first | (with_reducible exact hF6) | (with_reducible exact Bl lF lP lG hF6 hb7) | (with_reducible exact Bl lF lP lG hF6 (hb7.alloc hb7.size _)) | (with_reducible exact Bl lF lP lG hF6 hBZ) | (with_reducible exact Bl lF lP lG hF6 (hBZ.trans (hb7.mono lZ))) | (with_reducible exact Bl lF lP lG hF6 ((hBZ.trans (hb7.mono lZ)).setCell (by simp) _)) | (with_reducible exact Bl lF lP lG hF6 (((hBZ.trans (hb7.mono lZ)).setCell (by simp) _).setCell (by simp) _)))
     (first | (go_at_call 102;refine (Aa HC _ (by first | (with_reducible exact hBX) | (with_reducible exact hBX2))).mono ?_;rintro e w7 ⟨rfl,hb7⟩;try (have Z7:=stay hb7 Z0;have z0':=Ab Z7 0;have z1':=Ab Z7 1;have q0':=Ag Z7 0;have q1':=Ag Z7 1;simp at z0' z1')))
    all_goals
     go_wp2
     go_meet
    ·exact ⟨_,rfl,Ad w7 _,hb1.trans ((hb7.mono (by simp [World.drew])).alloc (Nat.le_trans (by simp [World.drew]) hb7.size) _)⟩
    ·exact ⟨_,rfl,D8 Z7 _ _,(((hb1.trans (hBZ.mono (by simp [World.drew]))).trans (hb7.mono (by simp [World.drew];omega))).setCell (by simp) _).setCell (by simp) _⟩
   case rest =>
    obtain ⟨jb,rfl,JB,hbx⟩:=hcut;have hBx:=hB.trans (hbx.mono hBs);have hsx:=hBx.size;have hCx:=stay hbx hC;have hownx:=Au hown (Kp.of_below (e:=none) hbx) (by decide);have j0:=Ab JB 0;have j1':=Ab JB 1;have lJ:=lt_of_block JB;simp at j0 j1';clear hbx hown hB hBs hC f0 f1 p0 p1 z0 z1 hF6 lF lP lG Z0 hBZ lZ hBX2 hBX hb1 x0 x1 y0 y1 hg hg2;go_wp2_with (at_builtin;refine wpList_append_own _ rfl _ _ 48 rfl (w.heap.size+1) 39 i0 _ 2 16 Tryz.underlying48 hi hz0 hz1 hz2 rfl (by decide) _ _ _ rfl (hownx.alloc _) ⟨wc.heap.size,0,none⟩ 1 1 [.int .i64 j1,.int .i64 j2] rfl rfl ?c1 ?c2 ?c3 ?c4 ?c5 ?_)
    case c1=>exact Az _ _ _ _ rfl
    case c2=>intro u hu;simp at hu;rcases hu with rfl | rfl <;> rfl
    case c3=>unfold maxLen;omega
    case c4=>omega
    case c5=>simp;omega
    intro v' w2 hown2 hgrow _;have hB2:=(hBx.alloc hsx (.cells #[.int .i64 j1,.int .i64 j2] 39)).grown hgrow (by simp;omega) (fun j hj=>by have:=(hownx.lt j hj).1;omega);have hC2:=(hgrow.block _ (by simp;omega) (fun hh=>by have:=(hownx.lt _ hh.symm).1;omega)).trans (Af hCx (.cells #[.int .i64 j1,.int .i64 j2] 39));have hown3:w2.ownsRow (w.heap.size+1) 39 2 v' (k+1) (Al (List.zipWith (Tr.joinT T) (a.take (k+1)) (b.take (k+1)))):=by rw [Aa HD,Dv];exact hown2
    clear hgrow hown2 hownx hCx hBx JB j0 j1';go_wp2
    go_roundw
    case rel=>exact ⟨k+1,by omega,by go_num,hown3,hB2,hC2⟩
    case measure=>simp [intOf];omega
  ·have kb:¬ (k:Int) < (a.length:Int):=by omega
   have ek:k=a.length:=by omega
   have HEK:=Ac ek;clear ek;go_wp2;go_ret;refine ⟨ua,k,uc,rfl,?_,hB⟩;have:=Ew (l:=List.zipWith (Tr.joinT T) (a.take k) (b.take k)) (n:=k) hown (by simp;omega)
   rwa [List.take_of_length_le (by have:=Aa HEK;omega),List.take_of_length_le (by have:=Aa HEK;omega)] at this
theorem Vi (T:List Int) (tg tc:Nat) (u v:FrV) (x y:Ck.Fr) (w:World) (hl:T.length≤1000) (hT:TreeIn w tg T) (hu:u.is x w) (hv:v.is y w) :
  Calls Tryz.prog 126 #[u.val,.agg #[.slice (some ⟨tg,0,none⟩) T.length tc,.slice ya yn yc],v.val] w fun e w'=>∃ z:FrV,e=.returned (.tuple #[z.val,.bool (decide (x.locals.length=y.locals.length∧x.stack.length=y.stack.length))])∧((x.locals.length=y.locals.length∧x.stack.length=y.stack.length)→z.is (Ls.join T x y) w')∧Below w.heap.size w w':=by
 have h1:=fun w' (h:Below w.heap.size w w') hne=>Ig (ya:=ya) (yn:=yn) (yc:=yc) T tg tc x.locals y.locals u.la v.la u.ln u.lc v.ln v.lc w' hl (hT.below h) (hu.lo.below h) (hv.lo.below h) (by have:=hu.hl;omega) hne;have h2:=fun w' (h:Below w.heap.size w w') hne=>Ig (ya:=ya) (yn:=yn) (yc:=yc) T tg tc x.stack y.stack u.sa v.sa u.sn u.sc v.sn v.sc w' hl (hT.below h) (hu.st.below h) (hv.st.below h) (by have:=hu.hs;omega) hne;have hll:=hu.hl;have hls:=hu.hs;obtain ⟨la,ln,lc,sa,sn,sc⟩:=u;obtain ⟨la',ln',lc',sa',sn',sc'⟩:=v;obtain ⟨e1,-,-⟩:=hu.lo.cap;obtain ⟨e2,-,-⟩:=hu.st.cap;obtain ⟨e3,-,-⟩:=hv.lo.cap;obtain ⟨e4,-,-⟩:=hv.st.cap;simp only [FrV.val] at h1 h2 e1 e2 e3 e4 ⊢;subst e1 e2 e3 e4;have H1:=Ac h1;have H2:=Ac h2;clear h1 h2 hu hv;obtain ⟨xl,xs⟩:=x;obtain ⟨yl,ys⟩:=y;simp only at H1 H2 hll hls ⊢;have hB0:=Co w (.cells #[.slice la xl.length lc,.slice sa xs.length sc] 150) (.cells #[.slice (some ⟨tg,0,none⟩) T.length tc,.slice ya yn yc] 89) (.cells #[.slice la' yl.length lc',.slice sa' ys.length sc'] 150) (.cells #[.slice none 0 0,.slice none 0 0] 150);obtain ⟨A0,T0,B0,Z0⟩:=Bp w (.cells #[.slice la xl.length lc,.slice sa xs.length sc] 150) (.cells #[.slice (some ⟨tg,0,none⟩) T.length tc,.slice ya yn yc] 89) (.cells #[.slice la' yl.length lc',.slice sa' ys.length sc'] 150) (.cells #[.slice none 0 0,.slice none 0 0] 150);by_cases c1:xl.length=yl.length
 ·by_cases c2:xs.length=ys.length
  ·rw [decide_eq_true ⟨c1,c2⟩];have n1:((xl.length:Int) != (yl.length:Int))=false:=by simp [c1]
   have n2:((xs.length:Int) != (ys.length:Int))=false:=by simp [c2]
   have HJ1:=Ac (Aa H1 _ hB0 c1);have HC2:=Ac c2;have HC1:=Ac c1;clear c1 c2;go_enter Tryz.func126,Tryz.ntmps126;go_wp2_with fail
   refine (Aa HJ1).mono ?_;rintro e w1 ⟨ja,jn,jc,rfl,ht1,hb1⟩;have hB1:=QB hB0 hb1;have a1:=Ab (stay hb1 A0) 1;have t0:=Ab (stay hb1 T0) 0;have t1:=Ab (stay hb1 T0) 1;have b1:=Ab (stay hb1 B0) 1;have Z1:=stay hb1 Z0;simp at a1 t0 t1 b1;have HJ2:=Ac (Aa H2 _ hB1 (Aa HC2));clear hb1;go_wp2_with fail
   refine (Aa HJ2).mono ?_;rintro e w2 ⟨ka,kn,kc,rfl,ht2,hb2⟩;have hB2:=QB hB1 hb2;have Z2:=stay hb2 Z1;obtain ⟨z0,z1⟩:=cl2 Z2;obtain ⟨q0,q1⟩:=fr2 Z2;have lZ:=lt_of_block Z2;simp at z0 z1;have ht1':=ht1.below hb2;clear hb2;go_wp2;refine bodyPost_ret (v:=.tuple #[.agg #[.slice ja jn jc,.slice ka kn kc],.bool true]) (by simp [results,Tryz.results126,go_sem,z0,z1]) rfl ?_;refine ⟨⟨ja,jn,jc,ka,kn,kc⟩,rfl,fun _=>⟨ht1'.set_frame Z2 _ _,ht2.set_frame Z2 _ _,?_,?_⟩,(hB2.setCell (by simp;omega) _).setCell (by simp;omega) _⟩
   ·have:=Aa HC1;simp [Ls.join];omega
   ·have:=Aa HC2;simp [Ls.join];omega
  ·rw [decide_eq_false (fun h=>c2 h.2)];have n1:((xl.length:Int) != (yl.length:Int))=false:=by simp [c1]
   have n2:((xs.length:Int) != (ys.length:Int))=true:=by simp;omega
   obtain ⟨z0,z1⟩:=cl2 Z0;obtain ⟨q0,q1⟩:=fr2 Z0;have lZ:=lt_of_block Z0;simp at z0 z1;have HC2:=Ac c2;clear c1 c2;go_enter Tryz.func126,Tryz.ntmps126;go_wp2;refine bodyPost_ret (v:=.tuple #[.agg #[.slice none 0 0,.slice none 0 0],.bool false]) (by simp [results,Tryz.results126,go_sem,z0,z1]) rfl ?_;exact ⟨⟨none,0,0,none,0,0⟩,rfl,fun h=>absurd h.2 (Aa HC2),hB0⟩
 ·rw [decide_eq_false (fun h=>c1 h.1)];have n1:((xl.length:Int) != (yl.length:Int))=true:=by simp;omega
  obtain ⟨z0,z1⟩:=cl2 Z0;obtain ⟨q0,q1⟩:=fr2 Z0;have lZ:=lt_of_block Z0;simp at z0 z1;have HC2:=Ac c1;clear c1;go_enter Tryz.func126,Tryz.ntmps126;go_wp2;refine bodyPost_ret (v:=.tuple #[.agg #[.slice none 0 0,.slice none 0 0],.bool false]) (by simp [results,Tryz.results126,go_sem,z0,z1]) rfl ?_;exact ⟨⟨none,0,0,none,0,0⟩,rfl,fun h=>absurd h.1 (Aa HC2),hB0⟩
structure Lw (S G:Nat) (w w':World):Prop where
 os:w'.os=w.os
 tape:w'.tape=w.tape
 output:w'.output=w.output
 size:w.heap.size≤w'.heap.size
 block:∀ k,k < w.heap.size→k ≠ S→k ≠ G→w'.heap[k]?=w.heap[k]?
 tys:∀ (k:Nat) (cs:Array Value),w.heap[k]?=some (.cells cs 39 (0,0))→w'.heap[k]?=some (.cells cs 39 (0,0))
theorem Lw.refl (S G:Nat) (w:World):Lw S G w w:=⟨rfl,rfl,rfl,Nat.le_refl _,fun _ _ _ _=>rfl,fun _ _ h=>h⟩
theorem Lw.trans {S G:Nat}{a b c:World} (h:Lw S G a b) (k:Lw S G b c):Lw S G a c :=
 ⟨k.os.trans h.os,k.tape.trans h.tape,k.output.trans h.output,Nat.le_trans h.size k.size,fun i hi h1 h2=>(k.block i (Nat.lt_of_lt_of_le hi h.size) h1 h2).trans (h.block i hi h1 h2),fun p n hp=>k.tys p n (h.tys p n hp)⟩
theorem Lw.of_below {S G:Nat}{w w':World} (h:Below w.heap.size w w'):Lw S G w w' :=
 ⟨h.os,h.tape,h.output,h.size,fun k hk _ _=>h.block k hk,fun p n hp=>(h.block p (lt_of_block hp)).trans hp⟩
theorem Lw.below {S G B:Nat}{w w':World} (h:Lw S G w w') (hS:B≤S) (hG:B≤G) (hB:B≤w.heap.size):Below B w w':=⟨h.os,h.tape,h.output,h.size,fun k hk=>h.block k (by omega) (by omega) (by omega)⟩
theorem Lw.set {S G:Nat}{w:World}{p:Addr}{cs0:Array Value}{t0:TypeId} (hp:p.block=S∨p.block=G) (h0:w.heap[p.block]?=some (.cells cs0 t0 (0,0))) (ht:t0 ≠ 39) (u:Value):Lw S G w (w.setCell p u) :=
 ⟨rfl,rfl,rfl,by simp [World.setCell],fun k _ h1 h2=>Below.heap_setCell _ _ _ _ (by rcases hp with h | h <;> rw [h] <;> assumption),fun q cs hq=>by
  have hne:q ≠ p.block:=by
   intro e;subst e;rw [h0] at hq;simp only [Option.some.injEq,Obj.cells.injEq] at hq;exact ht hq.2.1
  exact (Below.heap_setCell _ _ _ _ hne).trans hq⟩
theorem TyR.lw {S G:Nat}{w w':World}{v:Value}{l:List (Int × Int)} (h:TyR w v l) (k:Lw S G w w'):TyR w' v l:=by
 rcases h with h | ⟨g,o,c,cur,hv,hg,h1,h2,h3⟩
 ·exact .inl h
 ·refine .inr ⟨g,o,c,cur,hv,k.tys g cur hg,h1,h2,fun j x hx=>?_⟩;rw [Ab (k.tys g cur hg),← Ab hg];exact h3 j x hx
theorem FrV.is.lw {S G:Nat}{v:FrV}{x:Ck.Fr}{w w':World} (h:v.is x w) (k:Lw S G w w'):v.is x w':=⟨h.lo.lw k,h.st.lw k,h.hl,h.hs⟩
structure SpC (cs:Array Value) (i:Nat) (v:FrV) (p:Ls.Sp):Prop where
 c0:cs[i * 5]?=some (.slice v.la v.ln v.lc)
 c1:cs[i * 5+1]?=some (.slice v.sa v.sn v.sc)
 c2:cs[i * 5+2]?=some (.bool p.st)
 c3:cs[i * 5+3]?=some (.bool p.ri)
 c4:cs[i * 5+4]?=some (.bool p.wa)
structure LsAt (w:World) (S G:Nat) (b:PBd) (gc:Nat) (s:Ls.S):Prop where
 blk:w.heap[S]?=some (.cells #[.slice (some ⟨b.tg,0,none⟩) b.T.length b.tc,.slice b.ya b.yn b.yc,.int .i64 b.cl,.int .i64 b.nm,.slice b.pa b.pl b.pc,.int .i64 b.r1,.int .i64 b.r2,.int .i64 b.lo,.int .i64 b.st,.slice b.ca b.cn b.cc,.slice b.ha b.hl b.hc,.slice b.ma b.ml b.mc,.slice b.la b.L.length b.lc,.slice b.fa1 b.fl1 b.fc1,.slice b.fa2 b.fl2 b.fc2,.slice (some ⟨b.tg,0,none⟩) b.T.length b.tc,.slice b.ya b.yn b.yc,.int .i64 b.cl,.int .i64 b.nm,.slice b.pa b.pl b.pc,.int .i64 b.r1,.int .i64 b.r2,.int .i64 b.lo,.int .i64 b.st,.slice b.ca b.cn b.cc,.slice b.ha b.hl b.hc,.slice b.ma b.ml b.mc,.slice b.la b.L.length b.lc,.slice (some ⟨G,0,none⟩) s.sp.length gc,.bool s.hop] 149 (0,0))
 spt:∃ cs,w.heap[G]?=some (.cells cs 212 (0,0))∧cs.size=s.sp.length * 5∧∀ i,i < s.sp.length→∃ v:FrV,SpC cs i v (s.at i)∧v.is (s.at i).fr w
 ne:S ≠ G
 len:s.sp.length≤1000
 cap:s.sp.length≤gc∧gc≤1000
theorem LsAt.below {w w':World}{S G:Nat}{b:PBd}{gc:Nat}{s:Ls.S} (h:LsAt w S G b gc s) (hb:Below w.heap.size w w'):LsAt w' S G b gc s:=by
 obtain ⟨cs,h1,h2,h3⟩:=h.spt;exact ⟨stay hb h.blk,⟨cs,stay hb h1,h2,fun i hi=>by obtain ⟨v,a,c⟩:=h3 i hi;exact ⟨v,a,c.below hb⟩⟩,h.ne,h.len,h.cap⟩
theorem LsAt.at {w:World}{S G:Nat}{b:PBd}{gc:Nat}{s:Ls.S} (h:LsAt w S G b gc s) {i:Nat} (hi:i < s.sp.length):∃ v:FrV,v.is (s.at i).fr w∧w.cell? ⟨G,i * 5,none⟩=some (.slice v.la v.ln v.lc)∧w.cell? ⟨G,i * 5+1,none⟩=some (.slice v.sa v.sn v.sc) ∧
  w.cell? ⟨G,i * 5+2,none⟩=some (.bool (s.at i).st)∧w.cell? ⟨G,i * 5+3,none⟩=some (.bool (s.at i).ri)∧w.cell? ⟨G,i * 5+4,none⟩=some (.bool (s.at i).wa):=by
 obtain ⟨cs,h1,h2,h3⟩:=h.spt;obtain ⟨v,a,c⟩:=h3 i hi;exact ⟨v,c,by rw [Ab h1];exact a.c0,by rw [Ab h1];exact a.c1,by rw [Ab h1];exact a.c2,by rw [Ab h1];exact a.c3,by rw [Ab h1];exact a.c4⟩
theorem LsAt.stop {w:World}{S G:Nat}{b:PBd}{gc:Nat}{s:Ls.S} (h:LsAt w S G b gc s):LsAt (w.setCell ⟨S,29,none⟩ (.bool true)) S G b gc s.stop∧Lw S G w (w.setCell ⟨S,29,none⟩ (.bool true)):=by
 have k:Lw S G w (w.setCell ⟨S,29,none⟩ (.bool true)):=Lw.set (p:=⟨S,29,none⟩) (.inl rfl) h.blk (by decide) _;obtain ⟨cs,h1,h2,h3⟩:=h.spt;refine ⟨⟨?_,⟨cs,?_,h2,fun i hi=>?_⟩,h.ne,h.len,h.cap⟩,k⟩
 ·rw [Ai h.blk];rfl
 ·exact (Below.heap_setCell _ _ _ _ (fun e=>h.ne e.symm)).trans h1
 ·obtain ⟨v,a,c⟩:=h3 i hi;exact ⟨v,a,c.lw k⟩
theorem Hl (s:Ls.S) (q:Nat) (p:Ls.Sp) (hq:q < s.sp.length) (hop:Bool) (i:Nat):(⟨s.sp.set q p,hop⟩:Ls.S).at i=if i=q then p else s.at i:=by
 unfold Ls.S.at;simp only [List.getD_eq_getElem?_getD,List.getElem?_set];by_cases e:q=i
 ·subst e;simp [hq]
 ·rw [if_neg e,if_neg (fun h=>e h.symm)]
theorem LsAt.set {w:World}{S G:Nat}{b:PBd}{gc:Nat}{s:Ls.S} (h:LsAt w S G b gc s) {q j:Nat} (hq:q < s.sp.length) (hj:j < 5) (u:Value) (p:Ls.Sp)
  (hu:∀ cs v,SpC cs q v (s.at q)→cs.size=s.sp.length * 5→v.is (s.at q).fr w→∃ v',SpC (cs.setIfInBounds (q * 5+j) u) q v' p∧(v'.is p.fr w)) :
  LsAt (w.setCell ⟨G,q * 5+j,none⟩ u) S G b gc ⟨s.sp.set q p,s.hop⟩∧Lw S G w (w.setCell ⟨G,q * 5+j,none⟩ u):=by
 obtain ⟨cs,h1,h2,h3⟩:=h.spt;have k:Lw S G w (w.setCell ⟨G,q * 5+j,none⟩ u):=Lw.set (p:=⟨G,q * 5+j,none⟩) (.inr rfl) h1 (by decide) _;refine ⟨⟨?_,⟨_,Ai h1 u,by simpa using h2,fun i hi=>?_⟩,h.ne,by simpa using h.len,by simpa using h.cap⟩,k⟩
 ·refine (Below.heap_setCell _ _ _ _ (fun e=>h.ne e)).trans ?_
  simpa using h.blk
 ·simp only [List.length_set] at hi;rw [Hl s q p hq];by_cases e:i=q
  ·subst e;rw [if_pos rfl];obtain ⟨v,a,c⟩:=h3 i hq;obtain ⟨v',a',c'⟩:=hu cs v a h2 c;exact ⟨v',a',c'.lw k⟩
  ·rw [if_neg e];obtain ⟨v,a,c⟩:=h3 i hi;refine ⟨v,⟨?_,?_,?_,?_,?_⟩,c.lw k⟩
   all_goals rw [Array.getElem?_setIfInBounds_ne (by omega)]
   ·exact a.c0
   ·exact a.c1
   ·exact a.c2
   ·exact a.c3
   ·exact a.c4
theorem Gm {cs:Array Value}{i:Nat} (h:i < cs.size) (u:Value):(cs.setIfInBounds i u)[i]?=some u:=by rw [Array.getElem?_setIfInBounds_self,if_pos h]
theorem Bo {cs:Array Value}{i k:Nat} (h:i ≠ k) (u:Value):(cs.setIfInBounds i u)[k]?=cs[k]?:=Array.getElem?_setIfInBounds_ne h
theorem LsAt.st {w:World}{S G:Nat}{b:PBd}{gc:Nat}{s:Ls.S} (h:LsAt w S G b gc s) {q:Nat} (hq:q < s.sp.length) (t:Bool):LsAt (w.setCell ⟨G,q * 5+2,none⟩ (.bool t)) S G b gc ⟨s.sp.set q ⟨(s.at q).fr,t,(s.at q).ri,(s.at q).wa⟩,s.hop⟩∧Lw S G w (w.setCell ⟨G,q * 5+2,none⟩ (.bool t)) :=
 h.set hq (by omega) _ _ fun cs v a hs c=>⟨v,⟨by rw [Bo (by omega)];exact a.c0,by rw [Bo (by omega)];exact a.c1,Gm (by omega) _,by rw [Bo (by omega)];exact a.c3,by rw [Bo (by omega)];exact a.c4⟩,c⟩
theorem LsAt.ri {w:World}{S G:Nat}{b:PBd}{gc:Nat}{s:Ls.S} (h:LsAt w S G b gc s) {q:Nat} (hq:q < s.sp.length) (t:Bool):LsAt (w.setCell ⟨G,q * 5+3,none⟩ (.bool t)) S G b gc ⟨s.sp.set q ⟨(s.at q).fr,(s.at q).st,t,(s.at q).wa⟩,s.hop⟩∧Lw S G w (w.setCell ⟨G,q * 5+3,none⟩ (.bool t)) :=
 h.set hq (by omega) _ _ fun cs v a hs c=>⟨v,⟨by rw [Bo (by omega)];exact a.c0,by rw [Bo (by omega)];exact a.c1,by rw [Bo (by omega)];exact a.c2,Gm (by omega) _,by rw [Bo (by omega)];exact a.c4⟩,c⟩
theorem LsAt.wa {w:World}{S G:Nat}{b:PBd}{gc:Nat}{s:Ls.S} (h:LsAt w S G b gc s) {q:Nat} (hq:q < s.sp.length) (t:Bool):LsAt (w.setCell ⟨G,q * 5+4,none⟩ (.bool t)) S G b gc ⟨s.sp.set q ⟨(s.at q).fr,(s.at q).st,(s.at q).ri,t⟩,s.hop⟩∧Lw S G w (w.setCell ⟨G,q * 5+4,none⟩ (.bool t)) :=
 h.set hq (by omega) _ _ fun cs v a hs c=>⟨v,⟨by rw [Bo (by omega)];exact a.c0,by rw [Bo (by omega)];exact a.c1,by rw [Bo (by omega)];exact a.c2,by rw [Bo (by omega)];exact a.c3,Gm (by omega) _⟩,c⟩
theorem LsAt.fr {w:World}{S G:Nat}{b:PBd}{gc:Nat}{s:Ls.S} (h:LsAt w S G b gc s) {q:Nat} (hq:q < s.sp.length) {u:FrV}{y:Ck.Fr} (hu:u.is y w) :
  LsAt ((w.setCell ⟨G,q * 5,none⟩ (.slice u.la u.ln u.lc)).setCell ⟨G,q * 5+1,none⟩ (.slice u.sa u.sn u.sc)) S G b gc ⟨s.sp.set q ⟨y,(s.at q).st,(s.at q).ri,(s.at q).wa⟩,s.hop⟩ ∧
  Lw S G w ((w.setCell ⟨G,q * 5,none⟩ (.slice u.la u.ln u.lc)).setCell ⟨G,q * 5+1,none⟩ (.slice u.sa u.sn u.sc)):=by
 obtain ⟨g1,k1⟩:=h.set (j:=0) hq (by omega) (.slice u.la u.ln u.lc) ⟨⟨y.locals,(s.at q).fr.stack⟩,(s.at q).st,(s.at q).ri,(s.at q).wa⟩ fun cs v a hs c =>
  ⟨⟨u.la,u.ln,u.lc,v.sa,v.sn,v.sc⟩,⟨Gm (by omega) _,by rw [Bo (by omega)];exact a.c1,by rw [Bo (by omega)];exact a.c2,by rw [Bo (by omega)];exact a.c3,by rw [Bo (by omega)];exact a.c4⟩,⟨hu.lo,c.st,hu.hl,c.hs⟩⟩
 have e:=Hl s q ⟨⟨y.locals,(s.at q).fr.stack⟩,(s.at q).st,(s.at q).ri,(s.at q).wa⟩ hq s.hop q;rw [if_pos rfl] at e;have hu1:=hu.lw k1;obtain ⟨g2,k2⟩:=g1.set (j:=1) (q:=q) (by simpa using hq) (by omega) (.slice u.sa u.sn u.sc) ⟨y,(s.at q).st,(s.at q).ri,(s.at q).wa⟩ fun cs v a hs c=>by
  rw [e] at a c;simp only [List.length_set] at hs;exact ⟨⟨v.la,v.ln,v.lc,u.sa,u.sn,u.sc⟩,⟨by rw [Bo (by omega)];exact a.c0,Gm (by omega) _,by rw [Bo (by omega)];exact a.c2,by rw [Bo (by omega)];exact a.c3,by rw [Bo (by omega)];exact a.c4⟩,⟨c.lo,hu1.st,c.hl,hu1.hs⟩⟩
 simp only [List.set_set] at g2;exact ⟨g2,k1.trans k2⟩
theorem LsAt.put2 {w:World}{S G:Nat}{b:PBd}{gc:Nat}{s:Ls.S}{q:Nat}{y:Ck.Fr} (hq:q < s.sp.length) (g1:LsAt w S G b gc ⟨s.sp.set q ⟨y,(s.at q).st,(s.at q).ri,(s.at q).wa⟩,s.hop⟩) :
  LsAt ((w.setCell ⟨G,q * 5+2,none⟩ (.bool true)).setCell ⟨G,q * 5+3,none⟩ (.bool true)) S G b gc (s.put q y)∧Lw S G w ((w.setCell ⟨G,q * 5+2,none⟩ (.bool true)).setCell ⟨G,q * 5+3,none⟩ (.bool true)):=by
 obtain ⟨g2,k2⟩:=g1.st (q:=q) (by simpa using hq) true;have e1:=Hl s q ⟨y,(s.at q).st,(s.at q).ri,(s.at q).wa⟩ hq s.hop q;rw [if_pos rfl] at e1;rw [e1] at g2;simp only [List.set_set] at g2;obtain ⟨g3,k3⟩:=g2.ri (q:=q) (by simpa using hq) true;have e2:=Hl s q ⟨y,true,(s.at q).ri,(s.at q).wa⟩ hq s.hop q;rw [if_pos rfl] at e2;rw [e2] at g3;simp only [List.set_set] at g3;exact ⟨g3,k2.trans k3⟩
theorem LsAt.free {w:World}{S G:Nat}{b:PBd}{gc:Nat}{s:Ls.S} (h:LsAt w S G b gc s) (i:Nat):w.frozen? ⟨G,i,none⟩=false∧G < w.heap.size:=by
 obtain ⟨cs,h1,_⟩:=h.spt;exact ⟨Ag h1 i,lt_of_block h1⟩
theorem LsAt.put1 {w:World}{S G:Nat}{b:PBd}{gc:Nat}{s:Ls.S}{q:Nat}{y:Ck.Fr} (hq:q < s.sp.length) (g1:LsAt w S G b gc ⟨s.sp.set q ⟨y,(s.at q).st,(s.at q).ri,(s.at q).wa⟩,s.hop⟩) :
  w.cell? ⟨S,28,none⟩=some (.slice (some ⟨G,0,none⟩) s.sp.length gc)∧S < w.heap.size∧w.cell? ⟨G,q * 5+2,none⟩=some (.bool (s.at q).st)∧w.cell? ⟨G,q * 5+3,none⟩=some (.bool (s.at q).ri)∧w.frozen? ⟨G,q * 5+2,none⟩=false∧w.frozen? ⟨G,q * 5+3,none⟩=false∧G < w.heap.size:=by
 obtain ⟨u,_,_,_,z2,z3,_⟩:=g1.at (i:=q) (by simpa using hq);rw [Hl s q _ hq,if_pos rfl] at z2 z3;have x28:=Ab g1.blk 28;simp at x28;exact ⟨x28,lt_of_block g1.blk,z2,z3,(g1.free _).1,(g1.free _).1,(g1.free 0).2⟩
theorem LsAt.box {w:World}{S G:Nat}{b:PBd}{gc:Nat}{s:Ls.S} (h:LsAt w S G b gc s) {g:Nat}{a1 a2:Option Addr}{n1 c1 n2 c2:Nat}{ty:TypeId} (hg:w.heap[g]?=some (.cells #[.slice a1 n1 c1,.slice a2 n2 c2] ty (0,0))) (h1:g ≠ S) (h2:g ≠ G) (x y:Value):LsAt ((w.setCell ⟨g,0,none⟩ x).setCell ⟨g,1,none⟩ y) S G b gc s:=by
 obtain ⟨cs,e1,e2,e3⟩:=h.spt;exact ⟨(Dh (fun e=>h1 e.symm)).trans h.blk,⟨cs,(Dh (fun e=>h2 e.symm)).trans e1,e2,fun i hi=>by obtain ⟨v,a,c⟩:=e3 i hi;exact ⟨v,a,c.set2 hg _ _⟩⟩,h.ne,h.len,h.cap⟩
theorem Lw.box {S G:Nat}{w w':World} (h:Lw S G w w') {g:Nat} (hg:w.heap.size≤g) (x y:Value):Lw S G w ((w'.setCell ⟨g,0,none⟩ x).setCell ⟨g,1,none⟩ y) :=
 ⟨h.os,h.tape,h.output,by have:=h.size;simpa [World.setCell] using this,fun k hk e1 e2=>(Dh (by omega)).trans (h.block k hk e1 e2),fun p cs hp=>by
  have:=lt_of_block hp;exact (Dh (by omega)).trans (h.tys p cs hp)⟩
end Go.Proofs.YtcefiamkoincoaaGreat
