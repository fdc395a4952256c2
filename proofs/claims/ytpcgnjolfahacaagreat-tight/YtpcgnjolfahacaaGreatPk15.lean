/- a part of the proofs -/
import Derived.Test.YtpcgnjolfahacaaGreatPk14
set_option maxRecDepth 100000
set_option maxHeartbeats 40000000
set_option linter.unusedVariables false
set_option linter.unusedSimpArgs false
namespace Go.Proofs.YtpcgnjolfahacaaGreat
open Go.RowKit
def Z4.F (s:Z4) (q:Nat):Option Zx:=if (s.at q).st=true then some (s.at q).fr else none
theorem Cf {s:Z4}{q:Nat}{x:Zx}:s.F q=some x↔(s.at q).st=true∧(s.at q).fr=x:=by
 unfold Z4.F
 split
 ·next h=>simp[h]
 ·next h=>simp[h]
theorem Jw {s:Z4}{q:Nat} (h:s.sp.length≤q):s.at q=Acc:=by unfold Z4.at;rw[List.getD_eq_getElem?_getD,List.getElem?_eq_none h];rfl
theorem Zn {s:Z4}{q:Nat} (h:(s.at q).st=true):q<s.sp.length:=by
 by_cases hq:q<s.sp.length
 ·exact hq
 ·rw[Jw (by omega)]at h;cases h
abbrev Aaf.Ok (E:Aaf) (s:Z4):Prop:=Acu E.T E.lo E.hi E.isN s
theorem Db {E:Aaf}{s:Z4} (h:E.Ok s) {q:Nat} (hq:(s.at q).st=true):E.I (s.at q).fr:=(h _ (Ab9 (Zn hq))).1 hq
structure Ac6 (E:Aaf) (s s':Z4):Prop where
 ok:E.Ok s'
 len:s'.sp.length=s.sp.length
 hop:s.hop=true→s'.hop=true
 st:∀ q,(s.at q).st=true→(s'.at q).st=true∧Aay E.T (s.at q).fr (s'.at q).fr
 wa:∀ q,(s.at q).wa=true→(s'.at q).wa=true
 ri:∀ q,(s'.at q).ri=false→(s.at q).ri=false∧(s'.at q).fr=(s.at q).fr∧(s'.at q).st=(s.at q).st
theorem Ac6.refl {E:Aaf}{s:Z4} (h:E.Ok s):Ac6 E s s:=⟨h,rfl,fun h=>h,fun q h=>⟨h,.refl _ _⟩,fun _ h=>h,fun _ h=>⟨h,rfl,rfl⟩⟩
theorem Ac6.trans {E:Aaf} (g:E.Good) {a b c:Z4} (ha:E.Ok a) (h:Ac6 E a b) (k:Ac6 E b c):Ac6 E a c:=by
 refine⟨k.ok,k.len.trans h.len,fun x=>k.hop (h.hop x),fun q hq=>?_,fun q hq=>k.wa q (h.wa q hq),fun q hq=>?_⟩
 ·obtain⟨h1,h2⟩:=h.st q hq;obtain⟨k1,k2⟩:=k.st q h1;exact⟨k1,h2.trans g k2 (Db ha hq).arg (Db h.ok h1).arg (Db k.ok k1).arg⟩
 ·obtain⟨k1,k2,k3⟩:=k.ri q hq;obtain⟨h1,h2,h3⟩:=h.ri q k1;exact⟨h1,k2.trans h2,k3.trans h3⟩
theorem Ac6.stop {E:Aaf}{s:Z4} (h:E.Ok s):Ac6 E s s.stop:=⟨h,rfl,fun _=>rfl,fun q h=>⟨h,.refl _ _⟩,fun _ h=>h,fun _ h=>⟨h,rfl,rfl⟩⟩
theorem Dn (s:Z4) {q:Nat} (hq:q<s.sp.length) (y:Zx) (i:Nat):(s.put q y).at i=if i=q then ⟨y,true,true,(s.at q).wa⟩ else s.at i:=by
 unfold Z4.put Z4.at;simp only[List.getD_eq_getElem?_getD,List.getElem?_set];by_cases e:q=i
 ·subst e;simp[hq]
 ·rw[if_neg e,if_neg (fun h=>e h.symm)]
theorem Ef (s:Z4) {q:Nat} (hq:q<s.sp.length) (i:Nat):(s.want q).at i=if i=q then ⟨(s.at q).fr,(s.at q).st,(s.at q).ri,true⟩ else s.at i:=by
 unfold Z4.want Z4.at;simp only[List.getD_eq_getElem?_getD,List.getElem?_set];by_cases e:q=i
 ·subst e;simp[hq]
 ·rw[if_neg e,if_neg (fun h=>e h.symm)]
theorem Fj (s:Z4) {q:Nat} (hq:q<s.sp.length) (i:Nat):(s.calm q).at i=if i=q then ⟨(s.at q).fr,(s.at q).st,false,(s.at q).wa⟩ else s.at i:=by
 unfold Z4.calm Z4.at;simp only[List.getD_eq_getElem?_getD,List.getElem?_set];by_cases e:q=i
 ·subst e;simp[hq]
 ·rw[if_neg e,if_neg (fun h=>e h.symm)]
theorem Ac6.put {E:Aaf}{s:Z4} (h:E.Ok s) {q:Nat} (hq:q<s.sp.length) {y:Zx} (hy:E.I y) (hl:(s.at q).st=true→Aay E.T (s.at q).fr y):Ac6 E s (s.put q y):=by
 refine⟨fun p hp=>?_,by simp[Z4.put],fun h=>h,fun i hi=>?_,fun i hi=>?_,fun i hi=>?_⟩
 ·rcases List.mem_or_eq_of_mem_set hp with hp|rfl
  ·exact h p hp
  ·exact⟨fun _=>hy,fun _=>rfl⟩
 ·rw[Dn s hq]
  split
  ·next e=>subst e;exact⟨rfl,hl hi⟩
  ·exact⟨hi,.refl _ _⟩
 ·rw[Dn s hq]
  split
  ·next e=>subst e;exact hi
  ·exact hi
 ·rw[Dn s hq]at hi ⊢
  split at hi
  ·cases hi
  ·next e=>rw[if_neg e];exact⟨hi,rfl,rfl⟩
theorem Ac6.want {E:Aaf}{s:Z4} (h:E.Ok s) {q:Nat} (hq:q<s.sp.length):Ac6 E s (s.want q):=by
 refine⟨fun p hp=>?_,by simp[Z4.want],fun h=>h,fun i hi=>?_,fun i hi=>?_,fun i hi=>?_⟩
 ·rcases List.mem_or_eq_of_mem_set hp with hp|rfl
  ·exact h p hp
  ·exact⟨(h _ (Ab9 hq)).1,(h _ (Ab9 hq)).2⟩
 ·rw[Ef s hq]
  split
  ·next e=>subst e;exact⟨hi,.refl _ _⟩
  ·exact⟨hi,.refl _ _⟩
 ·rw[Ef s hq]
  split
  ·rfl
  ·exact hi
 ·rw[Ef s hq]at hi ⊢
  split at hi
  ·next e=>subst e;rw[if_pos rfl];exact⟨hi,rfl,rfl⟩
  ·next e=>rw[if_neg e];exact⟨hi,rfl,rfl⟩
theorem Ub {E:Aaf} (g:E.Good) {s:Z4} (h:E.Ok s) (hn:s.sp.length=E.n) {x:Zx} (hx:x.locals.length=E.lo∧(∀ t∈x.locals,Aab E.T E.isN t)∧∀ t∈x.stack,Aab E.T E.isN t) (q:Int) :
  Ac6 E s (Aal E.T E.hi x q s)∧((Aal E.T E.hi x q s).hop=false→0≤q∧q<(E.n:Int)∧(x.stack.length:Int)≤E.hi∧((Aal E.T E.hi x q s).at q.toNat).st=true∧Aay E.T x ((Aal E.T E.hi x q s).at q.toNat).fr) ∧
  (∀ i,((Aal E.T E.hi x q s).at i).st=true→(s.at i).st=true∨(i=q.toNat∧q<(E.n:Int)))∧(∀ i,((Aal E.T E.hi x q s).at i).wa=(s.at i).wa):=by
 unfold Aal
 split
 ·exact⟨.stop h,fun h=>(by cases h),fun i hi=>.inl hi,fun _=>rfl⟩
 ·next hc =>
  have hx':E.I x:=⟨hx.1,by omega,hx.2.1,hx.2.2⟩;have hq:q.toNat<s.sp.length:=by omega
  split
  ·next h1 =>
   refine⟨.put h hq hx' (fun e=>by rw[h1]at e;cases e),fun _=>⟨by omega,by omega,by omega,?_⟩,fun i hi=>?_,fun i=>?_⟩
   ·rw[Dn s hq,if_pos rfl];exact⟨rfl,.refl _ _⟩
   ·rw[Dn s hq]at hi
    split at hi
    ·next e=>exact .inr ⟨e,by omega⟩
    ·exact .inl hi
   ·rw[Dn s hq]
    split
    ·next e=>rw[e]
    ·rfl
  ·next h1 =>
   have h1':(s.at q.toNat).st=true:=by simpa using h1
   have hy:=Db h h1'
   split
   ·next h2=>exact⟨.refl h,fun _=>⟨by omega,by omega,by omega,h1',Jl.1 h2⟩,fun i hi=>.inl hi,fun _=>rfl⟩
   ·split
    ·next h3 =>
     obtain⟨j1,j2,j3⟩:=Qc g.T hx'.arg hy.arg h3.1 h3.2;refine⟨.put h hq (Oh g.T hx' hy) (fun _=>j2),fun _=>⟨by omega,by omega,by omega,?_⟩,fun i hi=>?_,fun i=>?_⟩
     ·rw[Dn s hq,if_pos rfl];exact⟨rfl,j1⟩
     ·rw[Dn s hq]at hi
      split at hi
      ·next e=>exact .inr ⟨e,by omega⟩
      ·exact .inl hi
     ·rw[Dn s hq]
      split
      ·next e=>rw[e]
      ·rfl
    ·exact⟨.stop h,fun h=>(by cases h),fun i hi=>.inl hi,fun _=>rfl⟩
def Abr (E:Aaf) (F:Nat→Option Zx) (s:Z4):Prop:=s.hop=false∧∀ q,(s.at q).st=true→∃ z,F q=some z∧Aay E.T (s.at q).fr z
theorem Ft {E:Aaf} (g:E.Good) {F:Nat→Option Zx} (hF:∀ p x,F p=some x→E.I x) {s:Z4} (h:E.Ok s) (hn:s.sp.length=E.n) (hu:Abr E F s) {x:Zx} (hx:x.locals.length=E.lo∧(∀ t∈x.locals,Aab E.T E.isN t)∧∀ t∈x.stack,Aab E.T E.isN t) {q:Int}
  (h0:0≤q) (h1:q<(E.n:Int)) {z:Zx} (hz:F q.toNat=some z) (hl:Aay E.T x z):Abr E F (Aal E.T E.hi x q s):=by
 have iz:=hF _ _ hz;have hs:(x.stack.length:Int)≤E.hi:=by rw[hl.st.len];exact iz.hi
 have hx':E.I x:=⟨hx.1,hs,hx.2.1,hx.2.2⟩;have hq:q.toNat<s.sp.length:=by omega
 unfold Aal;rw[if_neg (by omega)];have put:∀ y,Aay E.T y z→Abr E F (s.put q.toNat y):=fun y hy=>by
  refine⟨hu.1,fun i hi=>?_⟩;rw[Dn s hq]at hi ⊢
  split at hi
  ·next e=>subst e;rw[if_pos rfl];exact⟨z,hz,hy⟩
  ·next e=>rw[if_neg e];exact hu.2 i hi
 split
 ·exact put x hl
 ·next h2 =>
  have h2':(s.at q.toNat).st=true:=by simpa using h2
  split
  ·exact hu
  ·obtain⟨z',hz',hl'⟩:=hu.2 _ h2';rw[hz]at hz';cases hz';have e1:x.locals.length=(s.at q.toNat).fr.locals.length:=hl.lo.len.trans hl'.lo.len.symm;have e2:x.stack.length=(s.at q.toNat).fr.stack.length:=hl.st.len.trans hl'.st.len.symm;rw[if_pos ⟨e1,e2⟩];exact put _ ((Qc g.T hx'.arg (Db h h2').arg e1 e2).2.2 z iz.arg hl hl')
def Ad7 (E:Aaf) (s:Z4) (q:Int) (y:Zx) (a:Bool):Prop:=0≤q∧q<(E.n:Int)∧(y.stack.length:Int)≤E.hi∧(∃ z,s.F q.toNat=some z∧Aay E.T y z)∧(a=true→(s.at q.toNat).wa=true)
theorem Ad7.up {E:Aaf} (g:E.Good) {s s':Z4} (hs:E.Ok s) (h:Ac6 E s s') {q:Int}{y:Zx} (hy:Aa0 E.T y) {a:Bool} (ht:Ad7 E s q y a):Ad7 E s' q y a:=by
 obtain⟨h1,h2,h3,⟨z,hz,hl⟩,h5⟩:=ht;obtain⟨e1,rfl⟩:=Cf.1 hz;obtain⟨k1,k2⟩:=h.st _ e1;exact⟨h1,h2,h3,⟨_,Cf.2 ⟨k1,rfl⟩,hl.trans g k2 hy (Db hs e1).arg (Db h.ok k1).arg⟩,fun e=>h.wa _ (h5 e)⟩
structure Aff (E:Aaf) (s s':Z4) (q:Int) (y:Zx) (a:Bool):Prop where
 up:Ac6 E s s'
 told:s'.hop=false→Ad7 E s' q y a
 st:∀ i,(s'.at i).st=true→(s.at i).st=true∨(i=q.toNat∧q<(E.n:Int))
 wa:∀ i,(s'.at i).wa=true→(s.at i).wa=true∨(i=q.toNat∧a=true)
theorem Es {E:Aaf} (g:E.Good) {s:Z4} (h:E.Ok s) (hn:s.sp.length=E.n) {x:Zx} (hx:x.locals.length=E.lo∧(∀ t∈x.locals,Aab E.T E.isN t)∧∀ t∈x.stack,Aab E.T E.isN t) (q:Int):Aff E s (Aal E.T E.hi x q s) q x false:=by
 obtain⟨a1,a2,a3,a4⟩:=Ub g h hn hx q;refine⟨a1,fun hh=>?_,a3,fun i hi=>.inl (by rw[← a4];exact hi)⟩;obtain⟨b1,b2,b3,b4,b5⟩:=a2 hh;exact⟨b1,b2,b3,⟨_,Cf.2 ⟨b4,rfl⟩,b5⟩,fun e=>by cases e⟩
theorem Gb {E:Aaf} (g:E.Good) {s:Z4} (h:E.Ok s) (hn:s.sp.length=E.n) {x:Zx} (hx:x.locals.length=E.lo∧(∀ t∈x.locals,Aab E.T E.isN t)∧∀ t∈x.stack,Aab E.T E.isN t) (q:Int):Aff E s (Abz E.T E.hi x q s) q x true:=by
 have c:=Es g h hn hx q;unfold Abz Aek;have hlen:=c.up.len
 split
 ·next hc =>
  have hq:q.toNat<(Aal E.T E.hi x q s).sp.length:=by omega
  have u:=Ac6.want c.up.ok hq;refine⟨c.up.trans g h u,fun hh=>?_,fun i hi=>?_,fun i hi=>?_⟩
  ·have t:=(c.told hh).up g c.up.ok u ⟨fun t ht=>(hx.2.1 t ht).1,fun t ht=>(hx.2.2 t ht).1⟩;exact⟨t.1,t.2.1,t.2.2.1,t.2.2.2.1,fun _=>by rw[Ef _ hq,if_pos rfl]⟩
  ·rw[Ef _ hq]at hi
   split at hi
   ·next e=>subst e;exact c.st _ hi
   ·exact c.st i hi
  ·rw[Ef _ hq]at hi
   split at hi
   ·next e=>exact .inr ⟨e,rfl⟩
   ·rcases c.wa i hi with h|⟨_,h⟩
    ·exact .inl h
    ·cases h
 ·next hc =>
  refine⟨c.up,fun hh=>?_,c.st,fun i hi=>?_⟩
  ·have t:=c.told hh;exact absurd ⟨t.1,by rw[hlen,hn];exact t.2.1⟩ hc
  ·rcases c.wa i hi with h|⟨_,h⟩
   ·exact .inl h
   ·cases h
theorem Kf {E:Aaf} (g:E.Good) {F:Nat→Option Zx} (hF:∀ p x,F p=some x→E.I x) {s:Z4} (h:E.Ok s) (hn:s.sp.length=E.n) (hu:Abr E F s) {x:Zx} (hx:x.locals.length=E.lo∧(∀ t∈x.locals,Aab E.T E.isN t)∧∀ t∈x.stack,Aab E.T E.isN t) {q:Int}
  (h0:0≤q) (h1:q<(E.n:Int)) {z:Zx} (hz:F q.toNat=some z) (hl:Aay E.T x z):Abr E F (Abz E.T E.hi x q s):=by
 have u:=Ft g hF h hn hu hx h0 h1 hz hl;unfold Abz Aek
 split
 ·next hc =>
  have hq:q.toNat<(Aal E.T E.hi x q s).sp.length:=by omega
  refine⟨u.1,fun i hi=>?_⟩;rw[Ef _ hq]at hi ⊢
  split at hi
  ·next e=>subst e;rw[if_pos rfl];exact u.2 _ hi
  ·next e=>rw[if_neg e];exact u.2 i hi
 ·exact u
structure Acp (E:Aaf) (s s':Z4) (R:Int→Zx→Bool→Prop):Prop where
 up:Ac6 E s s'
 told:s'.hop=false→∀ q y a,R q y a→Ad7 E s' q y a
 st:∀ i,(s'.at i).st=true→(s.at i).st=true∨∃ q y a,R q y a∧i=q.toNat∧q<(E.n:Int)
 wa:∀ i,(s'.at i).wa=true→(s.at i).wa=true∨∃ q y,R q y true∧i=q.toNat
theorem Acp.nil {E:Aaf}{s:Z4} (h:E.Ok s) {R:Int→Zx→Bool→Prop} (hR:∀ q y a,¬ R q y a):Acp E s s R:=⟨.refl h,fun _ q y a h=>absurd h (hR q y a),fun _ h=>.inl h,fun _ h=>.inl h⟩
theorem Acp.one {E:Aaf}{s s':Z4}{q:Int}{y:Zx}{a:Bool} (h:Aff E s s' q y a) {R:Int→Zx→Bool→Prop} (hR:∀ q' y' a',R q' y' a'↔q'=q∧y'=y∧a'=a):Acp E s s' R :=
 ⟨h.up,fun hh q' y' a' hr=>by obtain⟨rfl,rfl,rfl⟩:=(hR q' y' a').1 hr;exact h.told hh,fun i hi=>(h.st i hi).imp id fun ⟨e1,e2⟩=>⟨q,y,a,(hR _ _ _).2 ⟨rfl,rfl,rfl⟩,e1,e2⟩,fun i hi=>(h.wa i hi).imp id fun ⟨e1,e2⟩=>⟨q,y,(hR _ _ _).2 ⟨rfl,rfl,e2.symm⟩,e1⟩⟩
theorem Acp.trans {E:Aaf} (g:E.Good) {s t u:Z4} (hs:E.Ok s) {A B R:Int→Zx→Bool→Prop} (h:Acp E s t A) (k:Acp E t u B) (hA:∀ q y a,A q y a→Aa0 E.T y) (hR:∀ q y a,R q y a↔A q y a∨B q y a):Acp E s u R:=by
 refine⟨h.up.trans g hs k.up,fun hh q y a hr=>?_,fun i hi=>?_,fun i hi=>?_⟩
 ·have ht:t.hop=false:=by
   cases e:t.hop with
   | false=>rfl
   | true=>rw[k.up.hop e]at hh;cases hh
  rcases(hR q y a).1 hr with h1|h1
  ·exact(h.told ht q y a h1).up g h.up.ok k.up (hA q y a h1)
  ·exact k.told hh q y a h1
 ·rcases k.st i hi with h1|⟨q,y,a,h1,h2⟩
  ·exact(h.st i h1).imp id fun ⟨q,y,a,h1,h2⟩=>⟨q,y,a,(hR _ _ _).2 (.inl h1),h2⟩
  ·exact .inr ⟨q,y,a,(hR _ _ _).2 (.inr h1),h2⟩
 ·rcases k.wa i hi with h1|⟨q,y,h1,h2⟩
  ·exact(h.wa i h1).imp id fun ⟨q,y,h1,h2⟩=>⟨q,y,(hR _ _ _).2 (.inl h1),h2⟩
  ·exact .inr ⟨q,y,(hR _ _ _).2 (.inr h1),h2⟩
theorem Eg {E:Aaf} (g:E.Good) {x:Zx} (hx:E.I x) (p:Nat):∀ (l:List Rd.Hnd),(∀ h∈l,h∈E.hs)→∀ {s:Z4},E.Ok s→s.sp.length=E.n →
  Acp E s (Aaj E.T E.hi (p:Int) x.locals l s) (fun q y a=>∃ h∈l,Aa3 h (p:Int)=true∧q=h.target∧y=Abo x h∧a=true)
 | [],_,s,h0,_=>.nil h0 (by rintro q y a ⟨h,hh,_⟩;simp at hh)
 | h::r,hm,s,h0,hn=>by
  unfold Aaj;have hf:(Abo x h).locals.length=E.lo∧(∀ t∈(Abo x h).locals,Aab E.T E.isN t)∧∀ t∈(Abo x h).stack,Aab E.T E.isN t :=
   ⟨hx.lo,hx.tl,fun t ht=>by rw[List.mem_singleton.1 ht];exact⟨(g.hnd h (hm h (by simp))).2.2.2,fun h=>by simp at h⟩⟩
  have h1:Acp E s (if Aa3 h (p:Int)=true then Abz E.T E.hi ⟨x.locals,[(3,h.cl)]⟩ h.target s else s) (fun q y a=>Aa3 h (p:Int)=true∧q=h.target∧y=Abo x h∧a=true):=by
   split
   ·next hc=>exact .one (Gb g h0 hn hf h.target) (fun q y a=>by simp[hc])
   ·next hc=>exact .nil h0 (by rintro q y a ⟨h,_⟩;exact hc h)
  refine h1.trans g h0 (Eg g hx p r (fun z hz=>hm z (by simp[hz])) h1.up.ok (h1.up.len.trans hn)) ?_ (fun q y a=>?_)
  ·rintro q y a ⟨_,_,rfl,_⟩;exact⟨fun t ht=>(hf.2.1 t ht).1,fun t ht=>(hf.2.2 t ht).1⟩
  ·constructor
   ·rintro ⟨k,hk,hr⟩;rcases List.mem_cons.1 hk with rfl|hk
    ·exact .inl hr
    ·exact .inr ⟨k,hk,hr⟩
   ·rintro (hr|⟨k,hk,hr⟩)
    ·exact⟨h,by simp,hr⟩
    ·exact⟨k,by simp[hk],hr⟩
theorem Eh {E:Aaf} (g:E.Good) {F:Nat→Option Zx} (hF:∀ p x,F p=some x→E.I x) {x:Zx} (hx:E.I x) (p:Nat):∀ (l:List Rd.Hnd),(∀ h∈l,h∈E.hs) →
  (∀ h∈l,Aa3 h (p:Int)=true→∃ z,F h.target.toNat=some z∧Aay E.T (Abo x h) z)→∀ {s:Z4},E.Ok s→s.sp.length=E.n→Abr E F s→Abr E F (Aaj E.T E.hi (p:Int) x.locals l s)
 | [],_,_,s,_,_,hu=>hu
 | h::r,hm,hz,s,h0,hn,hu=>by
  unfold Aaj;have hg:=g.hnd h (hm h (by simp));have hf:(Abo x h).locals.length=E.lo∧(∀ t∈(Abo x h).locals,Aab E.T E.isN t)∧∀ t∈(Abo x h).stack,Aab E.T E.isN t :=
   ⟨hx.lo,hx.tl,fun t ht=>by rw[List.mem_singleton.1 ht];exact⟨hg.2.2.2,fun h=>by simp at h⟩⟩
  by_cases hc:Aa3 h (p:Int)=true
  ·rw[if_pos hc];obtain⟨z,z1,z2⟩:=hz h (by simp) hc;have c:=Gb g h0 hn hf h.target;exact Eh g hF hx p r (fun z hz=>hm z (by simp[hz])) (fun z hz'=>hz z (by simp[hz'])) c.up.ok (c.up.len.trans hn) (Kf g hF h0 hn hu hf hg.1 hg.2.1 z1 z2)
  ·rw[if_neg hc];exact Eh g hF hx p r (fun z hz=>hm z (by simp[hz])) (fun z hz'=>hz z (by simp[hz'])) h0 hn hu
structure Adl (E:Aaf) (bh:Cd.Ins→Zx→Option Zx) (i:Cd.Ins) (p:Nat):Prop where
 mem:p∈E.ps
 pl:i.place=(p:Int)
 op:i.op=E.op p
 ar:Aan (E.op p)=true→i.n=E.ar p
 rl:∀ x,E.I x→bh i x=E.rl p x
theorem Ry {E:Aaf} (g:E.Good) {bh:Cd.Ins→Zx→Option Zx}{i:Cd.Ins}{p:Nat} (hi:Adl E bh i p) {x:Zx} (hx:E.I x) {s:Z4} (h0:E.Ok s) (hn:s.sp.length=E.n) :
  Acp E s (Ac0 E.T E.hi E.hs bh i x s) (Acx E p x)∧((Ac0 E.T E.hi E.hs bh i x s).hop=false→∃ y,E.rl p x=some y):=by
 have hH:=Eg g hx p E.hs (fun h hh=>hh) h0 hn;have hHA:∀ q y a,(∃ h∈E.hs,Aa3 h (p:Int)=true∧q=h.target∧y=Abo x h∧a=true)→Aa0 E.T y:=by
  rintro q y a ⟨h,hh,hc,rfl,rfl,rfl⟩;have:=Ik g hi.mem hx (.hnd h hh hc);exact⟨fun t ht=>(this.2.1 t ht).1,fun t ht=>(this.2.2 t ht).1⟩
 unfold Ac0;rw[hi.rl x hx,hi.pl,hi.op];cases hr:E.rl p x with
 | none =>
  refine⟨⟨hH.up.trans g h0 (.stop hH.up.ok),fun h=>(by cases h),fun i hi'=>?_,fun i hi'=>?_⟩,fun h=>(by cases h)⟩
  ·exact(hH.st i hi').imp id fun ⟨q,y,a,⟨h,hh,hc,e1,e2,e3⟩,h2⟩=>⟨q,y,a,by subst e1 e2 e3;exact .hnd h hh hc,h2⟩
  ·exact(hH.wa i hi').imp id fun ⟨q,y,⟨h,hh,hc,e1,e2,e3⟩,h2⟩=>⟨q,y,by subst e1 e2;exact .hnd h hh hc,h2⟩
 | some y =>
  have iy:=g.rl p hi.mem x y hx hr;have hy:y.locals.length=E.lo∧(∀ t∈y.locals,Aab E.T E.isN t)∧∀ t∈y.stack,Aab E.T E.isN t:=⟨iy.lo,iy.tl,iy.ts⟩;have h2:Acp E s (if Aan (E.op p)=true then Abz E.T E.hi y i.n (Aaj E.T E.hi (p:Int) x.locals E.hs s) else Aaj E.T E.hi (p:Int) x.locals E.hs s)
    (fun q z a=>(∃ h∈E.hs,Aa3 h (p:Int)=true∧q=h.target∧z=Abo x h∧a=true)∨(Aan (E.op p)=true∧q=E.ar p∧z=y∧a=true)):=by
   split
   ·next hj =>
    have c:=Gb g hH.up.ok (hH.up.len.trans hn) hy i.n;rw[hi.ar hj]at c ⊢;exact hH.trans g h0 (.one c (R:=fun q z a=>q=E.ar p∧z=y∧a=true) (fun _ _ _=>Iff.rfl)) hHA (fun q z a=>by simp[hj])
   ·next hj =>
    refine⟨hH.up,fun h q z a hh=>?_,fun i hi=>(hH.st i hi).imp id fun ⟨q,z,a,h1,h2⟩=>⟨q,z,a,.inl h1,h2⟩,fun i hi=>(hH.wa i hi).imp id fun ⟨q,z,h1,h2⟩=>⟨q,z,.inl h1,h2⟩⟩;rcases hh with hh | ⟨hh,_⟩
    ·exact hH.told h q z a hh
    ·exact absurd hh hj
  have h2A:∀ q z a,((∃ h∈E.hs,Aa3 h (p:Int)=true∧q=h.target∧z=Abo x h∧a=true)∨(Aan (E.op p)=true∧q=E.ar p∧z=y∧a=true))→Aa0 E.T z:=by
   rintro q z a (hh|⟨_,_,rfl,_⟩)
   ·exact hHA q z a hh
   ·exact iy.arg
  refine⟨?_,fun _=>⟨y,rfl⟩⟩;simp only
  split
  ·next hg =>
   have c:=Es g h2.up.ok (h2.up.len.trans hn) hy ((p:Int)+(Cd.wd (E.op p):Int));refine h2.trans g h0 (.one c (R:=fun q z a=>q=(p:Int)+(Cd.wd (E.op p):Int)∧z=y∧a=false) (fun _ _ _=>Iff.rfl)) h2A (fun q z a=>?_)
   constructor
   ·intro h;cases h using Acx.el with
    | hnd h hh hc=>exact .inl (.inl ⟨h,hh,hc,rfl,rfl,rfl⟩)
    | jmp z h1 h2=>rw[hr]at h1;cases h1;exact .inl (.inr ⟨h2,rfl,rfl,rfl⟩)
    | nxt z h1 h2=>rw[hr]at h1;cases h1;exact .inr ⟨rfl,rfl,rfl⟩
   ·rintro ((⟨h,hh,hc,rfl,rfl,rfl⟩|⟨hj,rfl,rfl,rfl⟩)|⟨rfl,rfl,rfl⟩)
    ·exact .hnd h hh hc
    ·exact .jmp _ hr hj
    ·exact .nxt _ hr hg
  ·next hg =>
   refine⟨h2.up,fun h q z a hh=>h2.told h q z a ?_,fun i hi=>(h2.st i hi).imp id fun ⟨q,z,a,h1,h2⟩=>⟨q,z,a,?_,h2⟩,fun i hi=>(h2.wa i hi).imp id fun ⟨q,z,h1,h2⟩=>⟨q,z,?_,h2⟩⟩
   ·cases hh using Acx.el with
    | hnd h hh hc=>exact .inl ⟨h,hh,hc,rfl,rfl,rfl⟩
    | jmp z h1 h2=>rw[hr]at h1;cases h1;exact .inr ⟨h2,rfl,rfl,rfl⟩
    | nxt z h1 h2=>exact absurd h2 hg
   ·rcases h1 with ⟨h,hh,hc,rfl,rfl,rfl⟩|⟨hj,rfl,rfl,rfl⟩
    ·exact .hnd h hh hc
    ·exact .jmp _ hr hj
   ·rcases h1 with ⟨h,hh,hc,rfl,rfl,_⟩|⟨hj,rfl,rfl,_⟩
    ·exact .hnd h hh hc
    ·exact .jmp _ hr hj
theorem Qy {E:Aaf} (g:E.Good) {F:Nat→Option Zx} (hF:Aef E F) {bh:Cd.Ins→Zx→Option Zx}{i:Cd.Ins}{p:Nat} (hi:Adl E bh i p) {x z:Zx} (hx:E.I x) (hz:F p=some z) (hl:Aay E.T x z) {s:Z4} (h0:E.Ok s) (hn:s.sp.length=E.n) (hu:Abr E F s) :
  Abr E F (Ac0 E.T E.hi E.hs bh i x s):=by
 have sz:=hF.sat p hi.mem z hz;have iz:=hF.inv p z hz;have key:∀ {q u a},Acx E p x q u a→0≤q∧q<(E.n:Int)∧∃ v,F q.toNat=some v∧Aay E.T u v:=by
  intro q u a hg;obtain⟨u',k1,k2⟩:=Sw g hi.mem hx iz hl hg sz.rl;obtain⟨a1,a2,_,⟨v,a3,a4⟩,_⟩:=sz.go q u' a k1;have ou:=Ik g hi.mem hx hg;have ou':=Ik g hi.mem iz k1;exact⟨a1,a2,v,a3,k2.trans g a4 ⟨fun t ht=>(ou.2.1 t ht).1,fun t ht=>(ou.2.2 t ht).1⟩ ⟨fun t ht=>(ou'.2.1 t ht).1,fun t ht=>(ou'.2.2 t ht).1⟩ (hF.inv _ _ a3).arg⟩
 have hH:=Eg g hx p E.hs (fun h hh=>hh) h0 hn;have uH:=Eh g hF.inv hx p E.hs (fun h hh=>hh) (fun h hh hc=>(key (.hnd h hh hc)).2.2) h0 hn hu;obtain⟨zr,hzr⟩:=sz.rl;obtain⟨y,hr,_⟩:=g.mono p hi.mem x z zr hx iz hl hzr;have iy:=g.rl p hi.mem x y hx hr;have hy:y.locals.length=E.lo∧(∀ t∈y.locals,Aab E.T E.isN t)∧∀ t∈y.stack,Aab E.T E.isN t:=⟨iy.lo,iy.tl,iy.ts⟩;unfold Ac0;rw[hi.rl x hx,hi.pl,hi.op,hr];simp only;have h2:E.Ok (if Aan (E.op p)=true then Abz E.T E.hi y i.n (Aaj E.T E.hi (p:Int) x.locals E.hs s) else Aaj E.T E.hi (p:Int) x.locals E.hs s) ∧
   (if Aan (E.op p)=true then Abz E.T E.hi y i.n (Aaj E.T E.hi (p:Int) x.locals E.hs s) else Aaj E.T E.hi (p:Int) x.locals E.hs s).sp.length=E.n ∧
   Abr E F (if Aan (E.op p)=true then Abz E.T E.hi y i.n (Aaj E.T E.hi (p:Int) x.locals E.hs s) else Aaj E.T E.hi (p:Int) x.locals E.hs s):=by
  split
  ·next hj =>
   have c:=Gb g hH.up.ok (hH.up.len.trans hn) hy i.n;obtain⟨k1,k2,v,k3,k4⟩:=key (.jmp y hr hj);rw[hi.ar hj]at c ⊢;exact⟨c.up.ok,c.up.len.trans (hH.up.len.trans hn),Kf g hF.inv hH.up.ok (hH.up.len.trans hn) uH hy k1 k2 k3 k4⟩
  ·exact⟨hH.up.ok,hH.up.len.trans hn,uH⟩
 split
 ·next hg =>
  obtain⟨k1,k2,v,k3,k4⟩:=key (.nxt y hr hg);exact Ft g hF.inv h2.1 h2.2.1 h2.2.2 hy k1 k2 k3 k4
 ·exact h2.2.2
structure Ae0 (E:Aaf) (s:Z4):Prop where
 ok:E.Ok s
 len:s.sp.length=E.n
 sat:s.hop=false→∀ p∈E.ps,(s.at p).st=true→(s.at p).ri=false→(∃ y,E.rl p (s.at p).fr=some y)∧∀ q y a,Acx E p (s.at p).fr q y a→Ad7 E s q y a
 pl:∀ q,(s.at q).st=true→q∈E.ps
 why:∀ q,(s.at q).wa=true→∃ p∈E.ps,(s.at p).st=true∧Afc E p q
 x0:s.hop=false→∃ y,s.F 0=some y∧Aay E.T E.x0 y
abbrev Abl (E:Aaf) (bh:Cd.Ins→Zx→Option Zx) (i:Cd.Ins) (x:Zx) (s:Z4):Z4:=Ac0 E.T E.hi E.hs bh i x s
theorem Yz {E:Aaf} (g:E.Good) {bh:Cd.Ins→Zx→Option Zx}{i:Cd.Ins}{p:Nat} (hi:Adl E bh i p) {s:Z4} (h:Ae0 E s) (hr:(s.at p).ri=true):Ae0 E (Abl E bh i (s.at p).fr (s.calm p)):=by
 have hp:p<s.sp.length:=by rw[h.len];exact g.lt p hi.mem
 have hst:(s.at p).st=true:=(h.ok _ (Ab9 hp)).2 hr;have hx:=Db h.ok hst;obtain⟨c1,c2,_⟩:=Aeh (K:=0) h.ok hp hr;have hn:(s.calm p).sp.length=E.n:=c2.trans h.len;obtain⟨c,cr⟩:=Ry g hi hx c1 hn;generalize hs':Abl E bh i (s.at p).fr (s.calm p)=s' at *;change Ac0 E.T E.hi E.hs bh i (s.at p).fr (s.calm p)=s' at hs';rw[hs']at c cr;have cst:∀ j,((s.calm p).at j).st=(s.at j).st:=fun j=>by rw[Fj s hp];split<;>rename_i e<;>simp[e]
 have cfr:∀ j,((s.calm p).at j).fr=(s.at j).fr:=fun j=>by rw[Fj s hp];split<;>rename_i e<;>simp[e]
 have cwa:∀ j,((s.calm p).at j).wa=(s.at j).wa:=fun j=>by rw[Fj s hp];split<;>rename_i e<;>simp[e]
 have cF:∀ j,(s.calm p).F j=s.F j:=fun j=>by unfold Z4.F;rw[cst,cfr]
 have ps':(s'.at p).st=true:=(c.up.st p (by rw[cst];exact hst)).1;refine⟨c.up.ok,c.up.len.trans hn,fun hh r hrp hrs hrr=>?_,fun q hq=>?_,fun q hq=>?_,fun hh=>?_⟩
 ·obtain⟨u1,u2,u3⟩:=c.up.ri r hrr;rw[u2,cfr];by_cases e:r=p
  ·subst e;exact⟨cr hh,fun q y a hg=>c.told hh q y a hg⟩
  ·have hop:(s.calm p).hop=false:=by
    cases e:(s.calm p).hop with
    | false=>rfl
    | true=>rw[c.up.hop e]at hh;cases hh
   have rr:(s.at r).ri=false:=by rw[Fj s hp,if_neg e]at u1;exact u1
   have rs:(s.at r).st=true:=by rw[← cst,← u3];exact hrs
   obtain⟨a1,a2⟩:=h.sat hop r hrp rs rr;refine⟨a1,fun q y a hg=>?_⟩;have og:=Ik g hrp (Db h.ok rs) hg;have t:=a2 q y a hg;have t':Ad7 E (s.calm p) q y a:=⟨t.1,t.2.1,t.2.2.1,by rw[cF];exact t.2.2.2.1,by rw[cwa];exact t.2.2.2.2⟩;exact t'.up g c1 c.up ⟨fun t ht=>(og.2.1 t ht).1,fun t ht=>(og.2.2 t ht).1⟩
 ·rcases c.st q hq with h1|⟨q',y,a,hg,rfl,hlt⟩
  ·rw[cst]at h1;exact h.pl q h1
  ·exact Yg g hi.mem hg hlt
 ·rcases c.wa q hq with h1|⟨q',y,hg,rfl⟩
  ·rw[cwa]at h1;obtain⟨r,hr1,hr2,hr3⟩:=h.why q h1;exact⟨r,hr1,(c.up.st r (by rw[cst];exact hr2)).1,hr3⟩
  ·exact⟨p,hi.mem,ps',Wf hg⟩
 ·have hop:(s.calm p).hop=false:=by
   cases e:(s.calm p).hop with
   | false=>rfl
   | true=>rw[c.up.hop e]at hh;cases hh
  obtain⟨y,hy,hl⟩:=h.x0 hop;obtain⟨e1,rfl⟩:=Cf.1 hy;obtain⟨k1,k2⟩:=c.up.st 0 (by rw[cst];exact e1);rw[cfr]at k2;exact⟨_,Cf.2 ⟨k1,rfl⟩,hl.trans g k2 g.x0.arg (Db h.ok e1).arg (Db c.up.ok k1).arg⟩
theorem Y4 {E:Aaf} (g:E.Good) {F:Nat→Option Zx} (hF:Aef E F) {bh:Cd.Ins→Zx→Option Zx}{i:Cd.Ins}{p:Nat} (hi:Adl E bh i p) {s:Z4} (h:Ae0 E s) (hr:(s.at p).ri=true) (hu:Abr E F s):Abr E F (Abl E bh i (s.at p).fr (s.calm p)):=by
 have hp:p<s.sp.length:=by rw[h.len];exact g.lt p hi.mem
 have hst:(s.at p).st=true:=(h.ok _ (Ab9 hp)).2 hr;obtain⟨c1,c2,_⟩:=Aeh (K:=0) h.ok hp hr;obtain⟨z,hz,hl⟩:=hu.2 p hst;refine Qy g hF hi (Db h.ok hst) hz hl c1 (c2.trans h.len) ⟨hu.1,fun j hj=>?_⟩;have cst:((s.calm p).at j).st=(s.at j).st:=by rw[Fj s hp];split<;>rename_i e<;>simp[e]
 have cfr:((s.calm p).at j).fr=(s.at j).fr:=by rw[Fj s hp];split<;>rename_i e<;>simp[e]
 rw[cst]at hj;rw[cfr];exact hu.2 j hj
theorem Ux {E:Aaf} (g:E.Good) {bh:Cd.Ins→Zx→Option Zx}:∀ (L:List Cd.Ins),(∀ i∈L,∃ p,Adl E bh i p)→∀ (b:Bool) {s:Z4},Ae0 E s →
  Ae0 E (Z8 (Abl E bh) L b s).1∧(∀ F,Aef E F→Abr E F s→Abr E F (Z8 (Abl E bh) L b s).1) ∧
  ((Z8 (Abl E bh) L b s).2=false→b=false∧(Z8 (Abl E bh) L b s).1=s∧∀ i∈L,(s.at i.place.toNat).ri=false)
 | [],_,b,s,h=>⟨h,fun _ _ hu=>hu,fun hb=>⟨hb,rfl,fun i hi=>by simp at hi⟩⟩
 | i::r,hL,b,s,h=>by
  obtain⟨p,hp⟩:=hL i (by simp);have ih:=fun b {s:Z4} h=>Ux g (bh:=bh) r (fun z hz=>hL z (by simp[hz])) b (s:=s) h;have hlt:p<s.sp.length:=by rw[h.len];exact g.lt p hp.mem
  have epl:i.place.toNat=p:=by rw[hp.pl];simp
  unfold Z8
  split
  ·next hc =>
   obtain⟨a1,a2,a3⟩:=ih b h;refine⟨a1,a2,fun hb=>?_⟩;obtain⟨b1,b2,b3⟩:=a3 hb;refine⟨b1,b2,fun z hz=>?_⟩;rcases List.mem_cons.1 hz with rfl|hz
   ·rcases hc with hc|hc
    ·rw[hp.pl]at hc;omega
    ·exact hc
   ·exact b3 z hz
  ·next hc =>
   have hr:(s.at p).ri=true:=by
    cases e:(s.at p).ri with
    | true=>rfl
    | false=>exact absurd (.inr (by rw[epl];exact e)) hc
   rw[epl];obtain⟨a1,a2,a3⟩:=ih true (Yz g hp h hr);refine⟨a1,fun F hF hu=>a2 F hF (Y4 g hF hp h hr hu),fun hb=>?_⟩;exact absurd (a3 hb).1 (by simp)
theorem Na {E:Aaf} (g:E.Good) {bh:Cd.Ins→Zx→Option Zx}{L:List Cd.Ins} (hL:∀ i∈L,∃ p,Adl E bh i p) (hp:∀ i∈L,0≤i.place) {K:Nat} (hk:∀ i∈L,∀ x s,E.I x→E.Ok s→Ab4 E.T E.lo E.hi E.isN K s (Abl E bh i x s)) :
  ∀ (m:Nat) {s:Z4},Ae0 E s→Ac5 E.T K s<m→Ae0 E (Aco (Abl E bh) L m s)∧(∀ F,Aef E F→Abr E F s→Abr E F (Aco (Abl E bh) L m s)) ∧
   ((Aco (Abl E bh) L m s).hop=false→∀ i∈L,((Aco (Abl E bh) L m s).at i.place.toNat).ri=false)
 | 0,s,_,h=>absurd h (by omega)
 | m+1,s,h,hm=>by
  obtain⟨a1,a2,a3⟩:=Ux g (bh:=bh) L hL false h;have h1:=Gx (K:=K) L hp hk false h.ok;unfold Aco
  split
  ·next hc =>
   have:=h1.2 hc.1 rfl;obtain⟨b1,b2,b3⟩:=Na g hL hp hk m a1 (by omega);exact⟨b1,fun F hF hu=>b2 F hF (a2 F hF hu),b3⟩
  ·next hc =>
   refine⟨a1,a2,fun hh=>?_⟩;have:(Z8 (Abl E bh) L false s).2=false:=by
    cases e:(Z8 (Abl E bh) L false s).2 with
    | false=>rfl
    | true=>exact absurd ⟨e,hh⟩ hc
   obtain⟨_,b2,b3⟩:=a3 this;rw[b2];exact b3
def Add (E:Aaf):Z4:=⟨List.replicate E.n Acc,false⟩
theorem Il (E:Aaf) (q:Nat):(Add E).at q=Acc:=by
 unfold Add Z4.at;rw[List.getD_eq_getElem?_getD,List.getElem?_replicate]
 split<;>rfl
def Aa5 (E:Aaf) (bh:Cd.Ins→Zx→Option Zx) (L:List Cd.Ins):Z4:=Aev E.T (Adw E.T E.lo E.hi) (Abl E bh) L (Aal E.T E.hi E.x0 0 (Add E))
theorem Kn {E:Aaf} (g:E.Good) {bh:Cd.Ins→Zx→Option Zx}{L:List Cd.Ins} (hL:∀ i∈L,∃ p,Adl E bh i p):∀ i∈L,∀ x s,E.I x→E.Ok s→Ab4 E.T E.lo E.hi E.isN (Adw E.T E.lo E.hi) s (Abl E bh i x s):=fun i hi x s hx hs=>by
 obtain⟨p,hp⟩:=hL i hi;exact Yd g.T hx (fun h hh=>(g.hnd h hh).2.2.2) (fun y hy=>by rw[hp.rl x hx]at hy;exact g.rl p hp.mem x y hx hy) hs
theorem Pu (E:Aaf):E.Ok (Add E):=fun p hp=>by
 have:=List.eq_of_mem_replicate hp;subst this;exact⟨fun h=>(by cases h),fun h=>(by cases h)⟩
theorem Fh {E:Aaf} (g:E.Good) {bh:Cd.Ins→Zx→Option Zx}{L:List Cd.Ins} (hL:∀ i∈L,∃ p,Adl E bh i p) (hA:∀ p∈E.ps,∃ i∈L,i.place=(p:Int)) :
  E.Ok (Aa5 E bh L)∧(Aa5 E bh L).sp.length=E.n∧((Aa5 E bh L).hop=false→Aef E (Aa5 E bh L).F∧(∀ q,(Aa5 E bh L).F q≠none→q∈E.ps)∧(∀ q,((Aa5 E bh L).at q).wa=true↔∃ p∈E.ps,(Aa5 E bh L).F p≠none∧Afc E p q)) ∧
  (∀ F,Aef E F→(Aa5 E bh L).hop=false∧∀ p x,(Aa5 E bh L).F p=some x→∃ y,F p=some y∧Aay E.T x y):=by
 have hz:0<E.n:=g.lt 0 g.zero;have i0:=Pu E;have il:(Add E).sp.length=E.n:=by simp[Add]
 have hx0:E.x0.locals.length=E.lo∧(∀ t∈E.x0.locals,Aab E.T E.isN t)∧∀ t∈E.x0.stack,Aab E.T E.isN t:=⟨g.x0.lo,g.x0.tl,g.x0.ts⟩;have c:=Es g i0 il hx0 0;have J0:Ae0 E (Aal E.T E.hi E.x0 0 (Add E)):=by
  refine⟨c.up.ok,c.up.len.trans il,fun hh p hp hs hr=>?_,fun q hq=>?_,fun q hq=>?_,fun hh=>?_⟩
  ·obtain⟨_,_,e⟩:=c.up.ri p hr;rw[hs,Il]at e;cases e
  ·rcases c.st q hq with h|⟨rfl,_⟩
   ·rw[Il]at h;cases h
   ·exact g.zero
  ·rcases c.wa q hq with h|⟨_,h⟩
   ·rw[Il]at h;cases h
   ·cases h
  ·exact(c.told hh).2.2.2.1
 have hpl:∀ i∈L,0≤i.place:=fun i hi=>by obtain⟨p,hp⟩:=hL i hi;rw[hp.pl];omega
 obtain⟨r1,r2,r3⟩:=Na g hL hpl (Kn g hL) (Ac5 E.T (Adw E.T E.lo E.hi) (Aal E.T E.hi E.x0 0 (Add E))+1) J0 (by omega);change Ae0 E (Aa5 E bh L) at r1;change ∀ F,Aef E F→_→Abr E F (Aa5 E bh L) at r2;change (Aa5 E bh L).hop=false→∀ i∈L,((Aa5 E bh L).at i.place.toNat).ri=false at r3;refine⟨r1.ok,r1.len,fun hh=>⟨⟨fun p x hx=>?_,r1.x0 hh,fun p hp x hx=>?_⟩,fun q hq=>?_,fun q=>⟨fun hq=>?_,?_⟩⟩,fun F hF=>?_⟩
 ·obtain⟨e1,rfl⟩:=Cf.1 hx;exact Db r1.ok e1
 ·obtain⟨e1,rfl⟩:=Cf.1 hx;obtain⟨i,hi,hip⟩:=hA p hp;have hr:=r3 hh i hi;rw[hip]at hr;obtain⟨s1,s2⟩:=r1.sat hh p hp e1 (by simpa using hr);exact⟨s1,fun q y a hg=>by obtain⟨t1,t2,t3,t4,_⟩:=s2 q y a hg;exact⟨t1,t2,t3,t4,fun _=>trivial⟩⟩
 ·cases e:(Aa5 E bh L).F q with
  | none=>exact absurd e hq
  | some x=>exact r1.pl q (Cf.1 e).1
 ·obtain⟨p,h1,h2,h3⟩:=r1.why q hq;exact⟨p,h1,by rw[Cf.2 ⟨h2,rfl⟩];simp,h3⟩
 ·rintro ⟨p,h1,h2,h3⟩;have e1:((Aa5 E bh L).at p).st=true:=by
   cases e:(Aa5 E bh L).F p with
   | none=>exact absurd e h2
   | some x=>exact(Cf.1 e).1
  obtain⟨i,hi,hip⟩:=hA p h1;have hr:=r3 hh i hi;rw[hip]at hr;obtain⟨⟨y,hy⟩,s2⟩:=r1.sat hh p h1 e1 (by simpa using hr);rcases h3 with ⟨h,hm,hc,rfl⟩|⟨hj,rfl⟩
  ·exact(s2 _ _ _ (.hnd h hm hc)).2.2.2.2 rfl
  ·exact(s2 _ _ _ (.jmp y hy hj)).2.2.2.2 rfl
 ·obtain⟨y,hy,hl⟩:=hF.x0;have u0:Abr E F (Add E):=⟨rfl,fun q hq=>by rw[Il]at hq;cases hq⟩;have u1:=Ft g hF.inv i0 il u0 hx0 (q:=0) (by omega) (by omega) hy hl;have u2:=r2 F hF u1;exact⟨u2.1,fun p x hx=>by obtain⟨e1,rfl⟩:=Cf.1 hx;exact u2.2 p e1⟩
def Aaz (cs:List Rd.Cls) (ms:List Rd.Mth) (m:Rd.Mth):Aaf :=
 ⟨Tr.tree cs,m.locals.toNat,m.stack,Ad0 m.code,m.code.length,Cd.places m.code,m.handlers,Abc cs ms m,fun p=>m.code.getD p 0,fun p=>Cd.atI m.code ((p:Int)+1),Aa9 m⟩
theorem Ja (c:List Int):∀ (k p0:Nat),c.length≤p0+k→∀ q∈Cd.starts c k p0,q+Cd.wd (c.getD q 0)<c.length→q+Cd.wd (c.getD q 0)∈Cd.starts c k p0
 | 0,p0,_,q,hq,_=>by simp[Cd.starts]at hq
 | k+1,p0,hk,q,hq,hl=>by
  unfold Cd.starts at hq ⊢;by_cases hp:p0<c.length
  ·rw[if_pos hp]at hq ⊢;have hw:=Cd.wd_bd (c.getD p0 0);rcases List.mem_cons.1 hq with rfl | hq
   ·refine List.mem_cons_of_mem _ ?_;obtain⟨j,rfl⟩:∃ j,k=j+1:=⟨k-1,by omega⟩;unfold Cd.starts;rw[if_pos hl];exact List.mem_cons_self ..
   ·exact List.mem_cons_of_mem _ (Ja c k _ (by omega) q hq hl)
  ·rw[if_neg hp]at hq;simp at hq
theorem Je {c:List Int}{q:Nat} (hq:q∈Cd.places c) (hl:q+Cd.wd (c.getD q 0)<c.length):q+Cd.wd (c.getD q 0)∈Cd.places c:=Ja c c.length 0 (by omega) q hq hl
theorem Lq {c:List Int}{q:Nat} (hq:q∈Cd.places c):q<c.length:=by
 have hb:Cd.begB c (q:Int)=true:=by unfold Cd.begB;rw[List.any_eq_true];exact⟨q,hq,by simp⟩
 have:=El hb;omega
theorem I8 {c:List Int} (h:0<c.length):0∈Cd.places c:=by
 unfold Cd.places;obtain⟨j,hj⟩:∃ j,c.length=j+1:=⟨c.length-1,by omega⟩;rw[hj];unfold Cd.starts;rw[if_pos h];exact List.mem_cons_self ..
theorem Vi {cs:List Rd.Cls}{ms:List Rd.Mth} (k:Ace cs ms) {m:Rd.Mth} (hm:m∈ms) {p:Nat} (hp:p∈Cd.places m.code) {x y z:Zx} (hx:Acd (Tr.tree cs) m x) (hy:Acd (Tr.tree cs) m y) (h:Aay (Tr.tree cs) x y) (hz:Abc cs ms m p y=some z):∃ u,Abc cs ms m p x=some u∧Aay (Tr.tree cs) u z:=by
 have g:=k.mt m hm;have hn:=J4 g hp;unfold Abc at hz ⊢;rw[Gn]at hz ⊢;unfold Abt at hz ⊢;obtain⟨z1,hz1,hz2⟩:=Option.bind_eq_some_iff.1 hz;obtain⟨u,hu1,hu2⟩:=Sh (want:=Rf.all (Tr.tree cs) (Rf.given++cs) (Cd.atI m.code ((p:Int)+1)).toNat) k.ok (Gg hx) (Gg hy) (Ld k hm hn) (fun t ht=>(Cm (H5 k.fl _ _ t ht)).1) h hz1;by_cases hl:(z1.stack.length:Int)≤m.stack
 ·rw[if_pos hl]at hz2;cases hz2;refine⟨u,?_,hu2⟩;rw[hu1];show (if (u.stack.length:Int)≤m.stack then some u else none)=some u
  rw[if_pos (by rw[hu2.st.len];exact hl)]
 ·rw[if_neg hl]at hz2;cases hz2
theorem Yw {T:List Int}{c:List Int}{h:Rd.Hnd} (hb:Cd.hndBad T c h=false):Cd.begB c h.target=true∧Tr.hasB T h.cl=true:=by
 unfold Cd.hndBad at hb;simp only[Bool.or_eq_false_iff,Bool.not_eq_eq_eq_not,Bool.not_false]at hb;exact⟨hb.1.1.1.2,hb.1.2⟩
theorem Ek {cs:List Rd.Cls}{ms:List Rd.Mth} (k:Ace cs ms) {m:Rd.Mth} (hm:m∈ms) (hc:0<m.code.length):(Aaz cs ms m).Good:=by
 have g:=k.mt m hm;refine⟨k.ok,Gs g,fun p hp x y hx h=>Gm k hm hp hx h,fun p hp x y z hx hy h hz=>Vi k hm hp hx hy h hz,fun p hp hj=>?_,fun p hp hn=>?_,fun h hh=>?_,I8 hc,fun p hp=>Lq hp⟩
 ·have ha:=g.arg p hp;unfold Cd.argAt at ha;rw[Kx]at ha;show 0≤Cd.atI m.code ((p:Int)+1)∧Cd.atI m.code ((p:Int)+1)<(m.code.length:Int)∧(Cd.atI m.code ((p:Int)+1)).toNat∈Cd.places m.code;have hj':Aan (m.code.getD p 0)=true:=hj;generalize m.code.getD p 0=op at *;unfold Aan at hj';have hop:op=11∨op=12∨op=13∨op=14:=by simpa using hj'
  unfold Cd.argB at ha;rw[if_neg (by omega),if_pos (by omega)]at ha;have h1:=El ha;have h2:=Jj ha;exact⟨by omega,by omega,h2⟩
 ·have hn':(p:Int)+(Cd.wd (m.code.getD p 0):Int)<(m.code.length:Int):=hn;have:=Je hp (by omega);show ((p:Int)+(Cd.wd (m.code.getD p 0):Int)).toNat∈Cd.places m.code;rw[show ((p:Int)+(Cd.wd (m.code.getD p 0):Int)).toNat=p+Cd.wd (m.code.getD p 0) by omega];exact this
 ·obtain⟨h1,h2⟩:=Yw (g.hnd h hh);have h3:=El h1;have h4:=Jj h1;exact⟨by omega,(by show h.target<(m.code.length:Int);omega),h4,Cy (Dv.1 h2)⟩
theorem Yi {cs:List Rd.Cls}{ms:List Rd.Mth} (k:Ace cs ms) {m:Rd.Mth} (hm:m∈ms) {p:Nat} (hp:p∈Cd.places m.code):Adl (Aaz cs ms m) (Aag cs ms m) (Cd.insAt m.code p) p:=by
 have g:=k.mt m hm;obtain⟨h25,hw⟩:=Cp g.unread p hp;refine⟨hp,rfl,rfl,fun hj=>?_,fun x hx=>Eo k hm hp hx⟩;have hj':Aan (m.code.getD p 0)=true:=hj;have h2:Cd.wd (m.code.getD p 0)=2:=by
  generalize m.code.getD p 0=op at *;unfold Aan at hj';have hop:op=11∨op=12∨op=13∨op=14:=by simpa using hj'
  unfold Cd.wd;rw[if_pos (by omega)]
 exact(Hf hw h2).1
theorem J7 {T:List Int}{nf:Int}{ms:List Rd.Mth}{m:Rd.Mth} (g:Ad2 T nf ms m):Cd.readL m.code=(Cd.places m.code).map (Cd.insAt m.code):=by
 have:=g.unread;unfold Cd.readL;rw[if_neg (by omega)];rfl
theorem Ed {cs:List Rd.Cls}{ms:List Rd.Mth} (k:Ace cs ms) {m:Rd.Mth} (hm:m∈ms):(∀ i∈Cd.readL m.code,∃ p,Adl (Aaz cs ms m) (Aag cs ms m) i p)∧∀ p∈(Aaz cs ms m).ps,∃ i∈Cd.readL m.code,i.place=(p:Int):=by
 rw[J7 (k.mt m hm)]
 constructor
 ·intro i hi;obtain⟨p,hp,rfl⟩:=List.mem_map.1 hi;exact⟨p,Yi k hm hp⟩
 ·intro p hp;exact⟨Cd.insAt m.code p,List.mem_map.2 ⟨p,hp,rfl⟩,rfl⟩
def Aak (cs:List Rd.Cls) (ms:List Rd.Mth) (m:Rd.Mth):Z4:=Aa5 (Aaz cs ms m) (Aag cs ms m) (Cd.readL m.code)
def Aax (cs:List Rd.Cls) (ms:List Rd.Mth) (m:Rd.Mth):Option (List Rd.Mp):=if (Aak cs ms m).hop=true then none else some (Aai 0 (Aak cs ms m).sp)
def Rd.Mon {α:Type} (f:Rd.St→α × Rd.St):Prop:=∀ t,t.bad=true→(f t).2.bad=true
theorem Cv (s:List UInt8):Rd.Mon (Rd.nx s):=fun t h=>by unfold Rd.nx;rw[if_pos h]
theorem Fz (s:List UInt8) (a b:Int):Rd.Mon (Rd.cn s a b):=fun t h=>by
 unfold Rd.cn
 split
 ·rfl
 ·split
  ·rfl
  ·exact Cv s t h
theorem Vh (s:List UInt8):Rd.Mon (Rd.ty s):=fun t h=>Cv s _ (Cv s t h)
theorem Ej {α:Type}{f:Rd.St→α × Rd.St} (hf:Rd.Mon f):∀ (n:Nat) (t:Rd.St),t.bad=true→(Rd.rep f n t).2.bad=true
 | 0,_,h=>h
 | n+1,t,h=>hf _ (Ej hf n t h)
theorem La (s:List UInt8) (n:Nat):Rd.Mon (Rd.tys s n):=fun t h=>Ej (Vh s) n t h
theorem Yf (s:List UInt8):Rd.Mon (Rd.hnd s):=fun t h=>Cv s _ (Cv s _ (Cv s _ (Cv s t h)))
theorem Nk (s:List UInt8):Rd.Mon (Rd.hnds s):=fun t h=>Ej (Yf s) _ _ (Fz s 0 4 t h)
theorem Zb (s:List UInt8) (L H:Int):Rd.Mon (Rd.mp s L H):=fun t h=>La s _ _ (Fz s 0 H _ (La s _ _ (Cv s t h)))
theorem Ur (s:List UInt8):Rd.Mon (Rd.codes s):=fun t h=>Ej (Cv s) _ _ (Fz s 1 120 t h)
theorem Sy (s:List UInt8) (t:Rd.St) (h:(Rd.codes s t).2.bad=false):0<(Rd.codes s t).1.length:=by
 unfold Rd.codes at h ⊢;simp only at h ⊢;rw[Rd.rep_len];by_cases hc:(Rd.cn s 1 120 t).2.bad=true
 ·rw[Ej (Cv s) _ _ hc]at h;cases h
 ·unfold Rd.cn at hc ⊢
  split at hc
  ·exact absurd rfl hc
  ·split at hc
   ·exact absurd rfl hc
   ·next h1 h2=>rw[if_neg h1,if_neg h2];omega
theorem Ps (s:List UInt8) (L H:Int):Rd.Mon (Rd.mps s L H):=fun t h=>Ej (Zb s L H) _ _ (Fz s 0 64 t h)
theorem Kq (s:List UInt8):Rd.Mon (Rd.mth s):=fun t h=>by
 unfold Rd.mth;exact Ps s _ _ _ (Nk s _ (Ur s _ (Fz s 0 8 _ (Fz s 0 8 _ (Vh s _ (La s _ _ (Fz s 0 4 _ (Cv s _ (Cv s t h)))))))))
theorem M5 (s:List UInt8) (t:Rd.St) (h:(Rd.mth s t).2.bad=false):0<(Rd.mth s t).1.code.length:=by
 unfold Rd.mth at h ⊢;simp only at h ⊢;refine Sy s _ ?_;generalize Rd.codes s _=c at h ⊢;cases hc:c.2.bad with
 | false=>rfl
 | true=>rw[Ps s _ _ _ (Nk s _ hc)]at h;cases h
theorem N5 (s:List UInt8):∀ (n:Nat) (t:Rd.St),(Rd.rep (Rd.mth s) n t).2.bad=false→∀ m∈(Rd.rep (Rd.mth s) n t).1,0<m.code.length
 | 0,_,_,m,hm=>by simp[Rd.rep]at hm
 | n+1,t,h,m,hm=>by
  unfold Rd.rep at h hm;simp only at h hm;rcases List.mem_append.1 hm with hm | hm
  ·refine N5 s n t ?_ m hm;cases hc:(Rd.rep (Rd.mth s) n t).2.bad with
   | false=>rfl
   | true=>rw[Kq s _ hc]at h;cases h
  ·rw[List.mem_singleton.1 hm];exact M5 s _ h
theorem Ev (s:List UInt8) (h:(Rd.read s).2=0):∀ m∈(Rd.read s).1.methods,0<m.code.length:=by
 unfold Rd.read at h ⊢
 split
 ·simp
 ·next h1 =>
  rw[if_neg h1]at h
  split
  ·simp
  ·next h2 =>
   rw[if_neg h2]at h;simp only[Rd.fil]at h2 ⊢;refine N5 s _ _ ?_;generalize (Rd.rep (Rd.mth s) _ _).2=t at *;cases hb:t.bad with
   | false=>rfl
   | true=>exact absurd (.inl hb) h2
variable {ya:Option Addr}{yn yc:Nat}
theorem V6 {α β γ:Type} (f:α→β→γ) (a:List α) (b:List β) (k:Nat) (h1:k<a.length) (h2:k<b.length):List.zipWith f (a.take (k+1)) (b.take (k+1))=List.zipWith f (a.take k) (b.take k)++[f a[k] b[k]]:=by
 rw[List.take_succ_eq_append_getElem h1,List.take_succ_eq_append_getElem h2,List.zipWith_append (by simp;omega)];rfl
theorem Bc {w w':World}{k1 k2 k3 o:Nat}{u0 u1 u2 u3 u4 u5:Value} (l1:k1<w.heap.size) (l2:k2<w.heap.size) (l3:k3<w.heap.size)
  (h:w.cell? ⟨k1,0,none⟩=some u0∧w.cell? ⟨k1,1,none⟩=some u1∧w.cell? ⟨k2,0,none⟩=some u2∧w.cell? ⟨k2,1,none⟩=some u3∧w.cell? ⟨k3,o,none⟩=some u4∧w.cell? ⟨k3,o+1,none⟩=some u5) (hb:Below w.heap.size w w') :
  w'.cell? ⟨k1,0,none⟩=some u0∧w'.cell? ⟨k1,1,none⟩=some u1∧w'.cell? ⟨k2,0,none⟩=some u2∧w'.cell? ⟨k2,1,none⟩=some u3∧w'.cell? ⟨k3,o,none⟩=some u4∧w'.cell? ⟨k3,o+1,none⟩=some u5 :=
 ⟨QC hb l1 h.1,QC hb l1 h.2.1,QC hb l2 h.2.2.1,QC hb l2 h.2.2.2.1,QC hb l3 h.2.2.2.2.1,QC hb l3 h.2.2.2.2.2⟩
theorem Hp (T:List Int) (tg tc:Nat) (a b:List (Int × Int)) (aa ab:Option Addr) (an ac bn bc:Nat) (w:World) (hl:T.length≤1000) (hT:TreeIn w tg T) (ha:TyR w (.slice aa an ac) a) (hb:TyR w (.slice ab bn bc) b) (hal:a.length≤10000) (hne:a.length=b.length) :
  Calls Tryz.prog 219 #[.agg #[.slice (some ⟨tg,0,none⟩) T.length tc,.slice ya yn yc],.slice aa an ac,.slice ab bn bc] w fun e w'=>∃ ja jn jc,e=.returned (.slice ja jn jc)∧TyR w' (.slice ja jn jc) (List.zipWith (Tr.joinT T) a b)∧Below w.heap.size w w':=by
 obtain⟨e1,-,-⟩:=ha.cap;obtain⟨e2,-,-⟩:=hb.cap;subst e1 e2;obtain⟨i0,hi,hz0,hz1,hz2⟩:=info_parts Tryz.infoType;have hB0:Below w.heap.size w (w.alloc (O2 (some ⟨tg,0,none⟩) T.length tc ya yn yc)):=QN _;have T0:=Ad w (O2 (some ⟨tg,0,none⟩) T.length tc ya yn yc);have HNE:=Ac hne;clear hne;go_enter Tryz.func219,Tryz.ntmps219;go_wp2
 go_loopw [7,13] (fun v i wr=>∃ k:Nat,k≤a.length∧i=.int .i64 (k:Int)∧wr.ownsRow (w.heap.size+1) 31 2 v k (Ak (List.zipWith (Tr.joinT T) (a.take k) (b.take k)))∧Below w.heap.size w wr∧wr.heap[w.heap.size]?=some (O2 (some ⟨tg,0,none⟩) T.length tc ya yn yc))
  (fun _ i _=>a.length-(intOf i).toNat)
 case atStart=>exact⟨0,by omega,rfl,World.ownsRow_nil _ _ _ _,hB0,T0⟩
 case round =>
  clear hB0 T0;obtain⟨k,hk,rfl,hown,hB,hC⟩:=hrel;have hBs:=hB.size;have hne:=Aa HNE;obtain⟨ua,uc,rfl⟩:=Ag hown;by_cases hkn:k<a.length
  ·have hkb:k<b.length:=by omega
   obtain⟨g,o,rfl,hg,hat⟩:=(ha.below hB).at (by omega);obtain⟨g2,o2,rfl,hg2,hat2⟩:=(hb.below hB).at (by omega);obtain⟨x0,x1⟩:=hat k hkn;obtain⟨y0,y1⟩:=hat2 k hkb;have hd:=V6 (Tr.joinT T) a b k hkn hkb;generalize a[k]=s at *;generalize b[k]=t at *;obtain⟨s1,s2⟩:=s;obtain⟨t1,t2⟩:=t;simp only at x0 x1 y0 y1;have f0:(wr.alloc (O7 s1 s2)).cell? ⟨w.heap.size,0,none⟩=some (.slice (some ⟨tg,0,none⟩) T.length tc):=(Ab (Ae hC (O7 s1 s2)) 0).trans rfl;have f1:(wr.alloc (O7 s1 s2)).cell? ⟨w.heap.size,1,none⟩=some (.slice ya yn yc):=(Ab (Ae hC (O7 s1 s2)) 1).trans rfl;have p0:(wr.alloc (O7 s1 s2)).cell? ⟨wr.heap.size,0,none⟩=some (.int .i64 s1):=(Ab (Ad wr (O7 s1 s2)) 0).trans rfl;have p1:(wr.alloc (O7 s1 s2)).cell? ⟨wr.heap.size,1,none⟩=some (.int .i64 s2):=(Ab (Ad wr (O7 s1 s2)) 1).trans rfl;have z0:=(World.cell?_alloc_lt wr (O7 s1 s2) ⟨g2,o2+k*2,none⟩ hg2).trans y0;have z1:=(World.cell?_alloc_lt wr (O7 s1 s2) ⟨g2,o2+k*2+1,none⟩ hg2).trans y1;have lF:=lt_of_block (Ae hC (O7 s1 s2));have lP:=lt_of_block (Ad wr (O7 s1 s2));have lG:g2<(wr.alloc (O7 s1 s2)).heap.size:=by simp;omega
   have hBX:=(hB.alloc hBs (O7 s1 s2)).drew;have hc:=fun w' (h:Below w.heap.size w w')=>Tg (ya:=ya) (yn:=yn) (yc:=yc) T tg tc s1 s2 t1 t2 w' hl (hT.below h);generalize Tr.joinT T (s1,s2) (t1,t2)=j at *;obtain⟨j1,j2⟩:=j;simp only at hc;have HC:=Ac hc;have HD:=Ac hd;have kb:(k:Int)<(a.length:Int):=by omega
   have kb2:(k:Int)<(b.length:Int):=by omega
   have hb1:Below wr.heap.size wr (wr.alloc (O7 s1 s2)).drew:=((Below.refl _ wr).alloc (Nat.le_refl _) _).drew;have hF6:(wr.alloc (O7 s1 s2)).drew.cell? ⟨w.heap.size,0,none⟩=some (.slice (some ⟨tg,0,none⟩) T.length tc)∧(wr.alloc (O7 s1 s2)).drew.cell? ⟨w.heap.size,1,none⟩=some (.slice ya yn yc)∧(wr.alloc (O7 s1 s2)).drew.cell? ⟨wr.heap.size,0,none⟩=some (.int .i64 s1)∧(wr.alloc (O7 s1 s2)).drew.cell? ⟨wr.heap.size,1,none⟩=some (.int .i64 s2)∧(wr.alloc (O7 s1 s2)).drew.cell? ⟨g2,o2+k*2,none⟩=some (.int .i64 t1)∧(wr.alloc (O7 s1 s2)).drew.cell? ⟨g2,o2+k*2+1,none⟩=some (.int .i64 t2):=⟨f0,f1,p0,p1,z0,z1⟩;have Z0:((wr.alloc (O7 s1 s2)).alloc (O7 0 0)).drew.heap[wr.heap.size+1]?=some (O7 0 0):=Ai wr (O7 s1 s2) (O7 0 0);have hBZ:Below (wr.alloc (O7 s1 s2)).drew.heap.size (wr.alloc (O7 s1 s2)).drew ((wr.alloc (O7 s1 s2)).alloc (O7 0 0)).drew:=⟨rfl,rfl,rfl,by simp[World.drew],fun k hk=>(((Below.refl _ (wr.alloc (O7 s1 s2))).alloc (Nat.le_refl _) (O7 0 0)).block k hk)⟩;have lZ:(wr.alloc (O7 s1 s2)).drew.heap.size≤((wr.alloc (O7 s1 s2)).alloc (O7 0 0)).drew.heap.size:=hBZ.size;have hBX2:Below w.heap.size w ((wr.alloc (O7 s1 s2)).alloc (O7 0 0)).drew:=((hB.alloc hBs (O7 s1 s2)).alloc (hB.alloc hBs (O7 s1 s2)).size (O7 0 0)).drew;replace lF:w.heap.size<(wr.alloc (O7 s1 s2)).drew.heap.size:=lF;replace lP:wr.heap.size<(wr.alloc (O7 s1 s2)).drew.heap.size:=lP;replace lG:g2<(wr.alloc (O7 s1 s2)).drew.heap.size:=lG;clear hat hat2 hc hne hd
   go_upto_region 6 with fail
   go_cut [10] from 14 to 33 (fun s10 wx=>∃ jb,s10=.pointer (some ⟨jb,0,none⟩)∧wx.heap[jb]?=some (O7 j1 j2)∧Below wr.heap.size wr wx)
   case first =>
    go_wp2
    go_region_held3 (fun w'=>w'.cell? ⟨w.heap.size,0,none⟩=some (.slice (some ⟨tg,0,none⟩) T.length tc)∧w'.cell? ⟨w.heap.size,1,none⟩=some (.slice ya yn yc)∧w'.cell? ⟨wr.heap.size,0,none⟩=some (.int .i64 s1)∧w'.cell? ⟨wr.heap.size,1,none⟩=some (.int .i64 s2)∧w'.cell? ⟨g2,o2+k*2,none⟩=some (.int .i64 t1)∧w'.cell? ⟨g2,o2+k*2+1,none⟩=some (.int .i64 t2))
     (first | (with_reducible exact hF6) | (with_reducible exact Bc lF lP lG hF6 hb7) | (with_reducible exact Bc lF lP lG hF6 (hb7.alloc hb7.size _)) | (with_reducible exact Bc lF lP lG hF6 hBZ) | (with_reducible exact Bc lF lP lG hF6 (hBZ.trans (hb7.mono lZ))) | (with_reducible exact Bc lF lP lG hF6 ((hBZ.trans (hb7.mono lZ)).setCell (by simp) _)) | (with_reducible exact Bc lF lP lG hF6 (((hBZ.trans (hb7.mono lZ)).setCell (by simp) _).setCell (by simp) _)))
     (first | (go_at_call 179;refine(Aa HC _ (by first | (with_reducible exact hBX) | (with_reducible exact hBX2))).mono ?_;rintro e w7 ⟨rfl,hb7⟩;try (have Z7:=stay hb7 Z0;have z0':=Ab Z7 0;have z1':=Ab Z7 1;have q0':=Af Z7 0;have q1':=Af Z7 1;simp at z0' z1')))
    all_goals
     go_wp2
     go_meet
    ·exact⟨_,rfl,Ad w7 _,hb1.trans ((hb7.mono (by simp[World.drew])).alloc (Nat.le_trans (by simp[World.drew]) hb7.size) _)⟩
    ·exact⟨_,rfl,Dr Z7 _ _,(((hb1.trans (hBZ.mono (by simp[World.drew]))).trans (hb7.mono (by simp[World.drew];omega))).setCell (by simp) _).setCell (by simp) _⟩
   case rest =>
    obtain⟨jb,rfl,JB,hbx⟩:=hcut;have hBx:=hB.trans (hbx.mono hBs);have hsx:=hBx.size;have hCx:=stay hbx hC;have hownx:=As hown (Kp.of_below (e:=none) hbx) (by decide);have j0:=Ab JB 0;have j1':=Ab JB 1;have lJ:=lt_of_block JB;simp at j0 j1';clear hbx hown hB hBs hC f0 f1 p0 p1 z0 z1 hF6 lF lP lG Z0 hBZ lZ hBX2 hBX hb1 x0 x1 y0 y1 hg hg2;go_wp2_with (at_builtin;refine wpList_append_own _ rfl _ _ 105 rfl (w.heap.size+1) 31 i0 _ 2 16 Tryz.underlying105 hi hz0 hz1 hz2 rfl (by decide) _ _ _ rfl (hownx.alloc _) ⟨wc.heap.size,0,none⟩ 1 1 [.int .i64 j1,.int .i64 j2] rfl rfl ?c1 ?c2 ?c3 ?c4 ?c5 ?_)
    case c1=>exact Av _ _ _ _ rfl
    case c2=>intro u hu;simp at hu;rcases hu with rfl | rfl<;>rfl
    case c3=>unfold maxLen;omega
    case c4=>omega
    case c5=>simp;omega
    intro v' w2 hown2 hgrow _;have hB2:=(hBx.alloc hsx (O7 j1 j2)).grown hgrow (by simp;omega) (fun j hj=>by have:=(hownx.lt j hj).1;omega);have hC2:=(hgrow.block _ (by simp;omega) (fun hh=>by have:=(hownx.lt _ hh.symm).1;omega)).trans (Ae hCx (O7 j1 j2));have hown3:w2.ownsRow (w.heap.size+1) 31 2 v' (k+1) (Ak (List.zipWith (Tr.joinT T) (a.take (k+1)) (b.take (k+1)))):=by rw[Aa HD,D9];exact hown2
    clear hgrow hown2 hownx hCx hBx JB j0 j1';go_wp2
    go_roundw
    case rel=>exact⟨k+1,by omega,by go_num,hown3,hB2,hC2⟩
    case measure=>simp[intOf];omega
  ·have kb:¬ (k:Int)<(a.length:Int):=by omega
   have ek:k=a.length:=by omega
   have HEK:=Ac ek;clear ek;go_wp2;go_ret;refine⟨ua,k,uc,rfl,?_,hB⟩;have:=Ee (l:=List.zipWith (Tr.joinT T) (a.take k) (b.take k)) (n:=k) hown (by simp;omega)
   rwa [List.take_of_length_le (by have:=Aa HEK;omega),List.take_of_length_le (by have:=Aa HEK;omega)]at this
theorem Uj (T:List Int) (tg tc:Nat) (u v:FrV) (x y:Zx) (w:World) (hl:T.length≤1000) (hT:TreeIn w tg T) (hu:u.is x w) (hv:v.is y w) :
  Calls Tryz.prog 168 #[u.val,.agg #[.slice (some ⟨tg,0,none⟩) T.length tc,.slice ya yn yc],v.val] w fun e w'=>∃ z:FrV,e=.returned (.tuple #[z.val,.bool (decide (x.locals.length=y.locals.length∧x.stack.length=y.stack.length))])∧((x.locals.length=y.locals.length∧x.stack.length=y.stack.length)→z.is (Acv T x y) w')∧Below w.heap.size w w':=by
 have h1:=fun w' (h:Below w.heap.size w w') hne=>Hp (ya:=ya) (yn:=yn) (yc:=yc) T tg tc x.locals y.locals u.la v.la u.ln u.lc v.ln v.lc w' hl (hT.below h) (hu.lo.below h) (hv.lo.below h) (by have:=hu.hl;omega) hne;have h2:=fun w' (h:Below w.heap.size w w') hne=>Hp (ya:=ya) (yn:=yn) (yc:=yc) T tg tc x.stack y.stack u.sa v.sa u.sn u.sc v.sn v.sc w' hl (hT.below h) (hu.st.below h) (hv.st.below h) (by have:=hu.hs;omega) hne;have hll:=hu.hl;have hls:=hu.hs;obtain⟨la,ln,lc,sa,sn,sc⟩:=u;obtain⟨la',ln',lc',sa',sn',sc'⟩:=v;obtain⟨e1,-,-⟩:=hu.lo.cap;obtain⟨e2,-,-⟩:=hu.st.cap;obtain⟨e3,-,-⟩:=hv.lo.cap;obtain⟨e4,-,-⟩:=hv.st.cap;simp only[FrV.val]at h1 h2 e1 e2 e3 e4 ⊢;subst e1 e2 e3 e4;have H1:=Ac h1;have H2:=Ac h2;clear h1 h2 hu hv;obtain⟨xl,xs⟩:=x;obtain⟨yl,ys⟩:=y;simp only at H1 H2 hll hls ⊢;have hB0:=Cb w (O18 la xl.length lc sa xs.length sc) (O2 (some ⟨tg,0,none⟩) T.length tc ya yn yc) (O18 la' yl.length lc' sa' ys.length sc') (O18 none 0 0 none 0 0);obtain⟨A0,T0,B0,Z0⟩:=Bk w (O18 la xl.length lc sa xs.length sc) (O2 (some ⟨tg,0,none⟩) T.length tc ya yn yc) (O18 la' yl.length lc' sa' ys.length sc') (O18 none 0 0 none 0 0);by_cases c1:xl.length=yl.length
 ·by_cases c2:xs.length=ys.length
  ·rw[decide_eq_true ⟨c1,c2⟩];have n1:((xl.length:Int) != (yl.length:Int))=false:=by simp[c1]
   have n2:((xs.length:Int) != (ys.length:Int))=false:=by simp[c2]
   have HJ1:=Ac (Aa H1 _ hB0 c1);have HC2:=Ac c2;have HC1:=Ac c1;clear c1 c2;go_enter Tryz.func168,Tryz.ntmps168;go_wp2_with fail
   refine(Aa HJ1).mono ?_;rintro e w1 ⟨ja,jn,jc,rfl,ht1,hb1⟩;have hB1:=QB hB0 hb1;have a1:=Ab (stay hb1 A0) 1;have t0:=Ab (stay hb1 T0) 0;have t1:=Ab (stay hb1 T0) 1;have b1:=Ab (stay hb1 B0) 1;have Z1:=stay hb1 Z0;simp at a1 t0 t1 b1;have HJ2:=Ac (Aa H2 _ hB1 (Aa HC2));clear hb1;go_wp2_with fail
   refine(Aa HJ2).mono ?_;rintro e w2 ⟨ka,kn,kc,rfl,ht2,hb2⟩;have hB2:=QB hB1 hb2;have Z2:=stay hb2 Z1;obtain⟨z0,z1⟩:=cl2 Z2;obtain⟨q0,q1⟩:=fr2 Z2;have lZ:=lt_of_block Z2;simp at z0 z1;have ht1':=ht1.below hb2;clear hb2;go_wp2;refine bodyPost_ret (v:=.tuple #[.agg #[.slice ja jn jc,.slice ka kn kc],.bool true]) (by simp[results,Tryz.results168,go_sem,z0,z1]) rfl ?_;refine⟨⟨ja,jn,jc,ka,kn,kc⟩,rfl,fun _=>⟨ht1'.set_frame Z2 _ _,ht2.set_frame Z2 _ _,?_,?_⟩,(hB2.setCell (by simp;omega) _).setCell (by simp;omega) _⟩
   ·have:=Aa HC1;simp[Acv];omega
   ·have:=Aa HC2;simp[Acv];omega
  ·rw[decide_eq_false (fun h=>c2 h.2)];have n1:((xl.length:Int) != (yl.length:Int))=false:=by simp[c1]
   have n2:((xs.length:Int) != (ys.length:Int))=true:=by simp;omega
   obtain⟨z0,z1⟩:=cl2 Z0;obtain⟨q0,q1⟩:=fr2 Z0;have lZ:=lt_of_block Z0;simp at z0 z1;have HC2:=Ac c2;clear c1 c2;go_enter Tryz.func168,Tryz.ntmps168;go_wp2;refine bodyPost_ret (v:=.tuple #[.agg #[.slice none 0 0,.slice none 0 0],.bool false]) (by simp[results,Tryz.results168,go_sem,z0,z1]) rfl ?_;exact⟨⟨none,0,0,none,0,0⟩,rfl,fun h=>absurd h.2 (Aa HC2),hB0⟩
 ·rw[decide_eq_false (fun h=>c1 h.1)];have n1:((xl.length:Int) != (yl.length:Int))=true:=by simp;omega
  obtain⟨z0,z1⟩:=cl2 Z0;obtain⟨q0,q1⟩:=fr2 Z0;have lZ:=lt_of_block Z0;simp at z0 z1;have HC2:=Ac c1;clear c1;go_enter Tryz.func168,Tryz.ntmps168;go_wp2;refine bodyPost_ret (v:=.tuple #[.agg #[.slice none 0 0,.slice none 0 0],.bool false]) (by simp[results,Tryz.results168,go_sem,z0,z1]) rfl ?_;exact⟨⟨none,0,0,none,0,0⟩,rfl,fun h=>absurd h.1 (Aa HC2),hB0⟩
end Go.Proofs.YtpcgnjolfahacaaGreat
