/- a part of the proofs -/
import Derived.Test.YtpcgnjolfahacaaGreatPk13
set_option maxRecDepth 100000
set_option maxHeartbeats 40000000
set_option linter.unusedVariables false
set_option linter.unusedSimpArgs false
namespace Go.Proofs.YtpcgnjolfahacaaGreat
open Go.RowKit
def Afd.F (s:Afd) (q:Nat):Option Afb:=if (s.at q).st=true then some (s.at q).fr else none
theorem Cy {s:Afd}{q:Nat}{x:Afb}:s.F q=some x↔(s.at q).st=true∧(s.at q).fr=x:=by
 unfold Afd.F
 split
 ·next h=>simp[h]
 ·next h=>simp[h]
theorem M5 {s:Afd}{q:Nat} (h:s.sp.length≤q):s.at q=Ahe:=by unfold Afd.at;rw[List.getD_eq_getElem?_getD,List.getElem?_eq_none h];rfl
theorem Aew {s:Afd}{q:Nat} (h:(s.at q).st=true):q<s.sp.length:=by
 by_cases hq:q<s.sp.length
 ·exact hq
 ·rw[M5 (by omega)]at h;cases h
abbrev Afj.Ok (E:Afj) (s:Afd):Prop:=Aht E.T E.lo E.hi E.isN s
theorem Dp {E:Afj}{s:Afd} (h:E.Ok s) {q:Nat} (hq:(s.at q).st=true):E.I (s.at q).fr:=(h _ (Ag9 (Aew hq))).1 hq
structure Ah6 (E:Afj) (s s':Afd):Prop where
 ok:E.Ok s'
 len:s'.sp.length=s.sp.length
 hop:s.hop=true→s'.hop=true
 st:∀ q,(s.at q).st=true→(s'.at q).st=true∧Afu E.T (s.at q).fr (s'.at q).fr
 wa:∀ q,(s.at q).wa=true→(s'.at q).wa=true
 ri:∀ q,(s'.at q).ri=false→(s.at q).ri=false∧(s'.at q).fr=(s.at q).fr∧(s'.at q).st=(s.at q).st
theorem Ah6.refl {E:Afj}{s:Afd} (h:E.Ok s):Ah6 E s s:=⟨h,rfl,fun h=>h,fun q h=>⟨h,.refl _ _⟩,fun _ h=>h,fun _ h=>⟨h,rfl,rfl⟩⟩
theorem Ah6.trans {E:Afj} (g:E.Good) {a b c:Afd} (ha:E.Ok a) (h:Ah6 E a b) (k:Ah6 E b c):Ah6 E a c:=by
 refine⟨k.ok,k.len.trans h.len,fun x=>k.hop (h.hop x),fun q hq=>?_,fun q hq=>k.wa q (h.wa q hq),fun q hq=>?_⟩
 ·obtain⟨h1,h2⟩:=h.st q hq;obtain⟨k1,k2⟩:=k.st q h1;exact⟨k1,h2.trans g k2 (Dp ha hq).arg (Dp h.ok h1).arg (Dp k.ok k1).arg⟩
 ·obtain⟨k1,k2,k3⟩:=k.ri q hq;obtain⟨h1,h2,h3⟩:=h.ri q k1;exact⟨h1,k2.trans h2,k3.trans h3⟩
theorem Ah6.stop {E:Afj}{s:Afd} (h:E.Ok s):Ah6 E s s.stop:=⟨h,rfl,fun _=>rfl,fun q h=>⟨h,.refl _ _⟩,fun _ h=>h,fun _ h=>⟨h,rfl,rfl⟩⟩
theorem Ef (s:Afd) {q:Nat} (hq:q<s.sp.length) (y:Afb) (i:Nat):(s.put q y).at i=if i=q then ⟨y,true,true,(s.at q).wa⟩ else s.at i:=by
 unfold Afd.put Afd.at;simp only[List.getD_eq_getElem?_getD,List.getElem?_set];by_cases e:q=i
 ·subst e;simp[hq]
 ·rw[if_neg e,if_neg (fun h=>e h.symm)]
theorem Fk (s:Afd) {q:Nat} (hq:q<s.sp.length) (i:Nat):(s.want q).at i=if i=q then ⟨(s.at q).fr,(s.at q).st,(s.at q).ri,true⟩ else s.at i:=by
 unfold Afd.want Afd.at;simp only[List.getD_eq_getElem?_getD,List.getElem?_set];by_cases e:q=i
 ·subst e;simp[hq]
 ·rw[if_neg e,if_neg (fun h=>e h.symm)]
theorem Gs (s:Afd) {q:Nat} (hq:q<s.sp.length) (i:Nat):(s.calm q).at i=if i=q then ⟨(s.at q).fr,(s.at q).st,false,(s.at q).wa⟩ else s.at i:=by
 unfold Afd.calm Afd.at;simp only[List.getD_eq_getElem?_getD,List.getElem?_set];by_cases e:q=i
 ·subst e;simp[hq]
 ·rw[if_neg e,if_neg (fun h=>e h.symm)]
theorem Ah6.put {E:Afj}{s:Afd} (h:E.Ok s) {q:Nat} (hq:q<s.sp.length) {y:Afb} (hy:E.I y) (hl:(s.at q).st=true→Afu E.T (s.at q).fr y):Ah6 E s (s.put q y):=by
 refine⟨fun p hp=>?_,by simp[Afd.put],fun h=>h,fun i hi=>?_,fun i hi=>?_,fun i hi=>?_⟩
 ·rcases List.mem_or_eq_of_mem_set hp with hp|rfl
  ·exact h p hp
  ·exact⟨fun _=>hy,fun _=>rfl⟩
 ·rw[Ef s hq]
  split
  ·next e=>subst e;exact⟨rfl,hl hi⟩
  ·exact⟨hi,.refl _ _⟩
 ·rw[Ef s hq]
  split
  ·next e=>subst e;exact hi
  ·exact hi
 ·rw[Ef s hq]at hi ⊢
  split at hi
  ·cases hi
  ·next e=>rw[if_neg e];exact⟨hi,rfl,rfl⟩
theorem Ah6.want {E:Afj}{s:Afd} (h:E.Ok s) {q:Nat} (hq:q<s.sp.length):Ah6 E s (s.want q):=by
 refine⟨fun p hp=>?_,by simp[Afd.want],fun h=>h,fun i hi=>?_,fun i hi=>?_,fun i hi=>?_⟩
 ·rcases List.mem_or_eq_of_mem_set hp with hp|rfl
  ·exact h p hp
  ·exact⟨(h _ (Ag9 hq)).1,(h _ (Ag9 hq)).2⟩
 ·rw[Fk s hq]
  split
  ·next e=>subst e;exact⟨hi,.refl _ _⟩
  ·exact⟨hi,.refl _ _⟩
 ·rw[Fk s hq]
  split
  ·rfl
  ·exact hi
 ·rw[Fk s hq]at hi ⊢
  split at hi
  ·next e=>subst e;rw[if_pos rfl];exact⟨hi,rfl,rfl⟩
  ·next e=>rw[if_neg e];exact⟨hi,rfl,rfl⟩
theorem Zf {E:Afj} (g:E.Good) {s:Afd} (h:E.Ok s) (hn:s.sp.length=E.n) {x:Afb} (hx:x.locals.length=E.lo∧(∀ t∈x.locals,Afi E.T E.isN t)∧∀ t∈x.stack,Afi E.T E.isN t) (q:Int) :
  Ah6 E s (Afo E.T E.hi x q s)∧((Afo E.T E.hi x q s).hop=false→0≤q∧q<(E.n:Int)∧(x.stack.length:Int)≤E.hi∧((Afo E.T E.hi x q s).at q.toNat).st=true∧Afu E.T x ((Afo E.T E.hi x q s).at q.toNat).fr) ∧
  (∀ i,((Afo E.T E.hi x q s).at i).st=true→(s.at i).st=true∨(i=q.toNat∧q<(E.n:Int)))∧(∀ i,((Afo E.T E.hi x q s).at i).wa=(s.at i).wa):=by
 unfold Afo
 split
 ·exact⟨.stop h,fun h=>(by cases h),fun i hi=>.inl hi,fun _=>rfl⟩
 ·next hc =>
  have hx':E.I x:=⟨hx.1,by omega,hx.2.1,hx.2.2⟩;have hq:q.toNat<s.sp.length:=by omega
  split
  ·next h1 =>
   refine⟨.put h hq hx' (fun e=>by rw[h1]at e;cases e),fun _=>⟨by omega,by omega,by omega,?_⟩,fun i hi=>?_,fun i=>?_⟩
   ·rw[Ef s hq,if_pos rfl];exact⟨rfl,.refl _ _⟩
   ·rw[Ef s hq]at hi
    split at hi
    ·next e=>exact .inr ⟨e,by omega⟩
    ·exact .inl hi
   ·rw[Ef s hq]
    split
    ·next e=>rw[e]
    ·rfl
  ·next h1 =>
   have h1':(s.at q.toNat).st=true:=by simpa using h1
   have hy:=Dp h h1'
   split
   ·next h2=>exact⟨.refl h,fun _=>⟨by omega,by omega,by omega,h1',Ih.1 h2⟩,fun i hi=>.inl hi,fun _=>rfl⟩
   ·split
    ·next h3 =>
     obtain⟨j1,j2,j3⟩:=Va g.T hx'.arg hy.arg h3.1 h3.2;refine⟨.put h hq (Sq g.T hx' hy) (fun _=>j2),fun _=>⟨by omega,by omega,by omega,?_⟩,fun i hi=>?_,fun i=>?_⟩
     ·rw[Ef s hq,if_pos rfl];exact⟨rfl,j1⟩
     ·rw[Ef s hq]at hi
      split at hi
      ·next e=>exact .inr ⟨e,by omega⟩
      ·exact .inl hi
     ·rw[Ef s hq]
      split
      ·next e=>rw[e]
      ·rfl
    ·exact⟨.stop h,fun h=>(by cases h),fun i hi=>.inl hi,fun _=>rfl⟩
def Agr (E:Afj) (F:Nat→Option Afb) (s:Afd):Prop:=s.hop=false∧∀ q,(s.at q).st=true→∃ z,F q=some z∧Afu E.T (s.at q).fr z
theorem Gu {E:Afj} (g:E.Good) {F:Nat→Option Afb} (hF:∀ p x,F p=some x→E.I x) {s:Afd} (h:E.Ok s) (hn:s.sp.length=E.n) (hu:Agr E F s) {x:Afb} (hx:x.locals.length=E.lo∧(∀ t∈x.locals,Afi E.T E.isN t)∧∀ t∈x.stack,Afi E.T E.isN t) {q:Int}
  (h0:0≤q) (h1:q<(E.n:Int)) {z:Afb} (hz:F q.toNat=some z) (hl:Afu E.T x z):Agr E F (Afo E.T E.hi x q s):=by
 have iz:=hF _ _ hz;have hs:(x.stack.length:Int)≤E.hi:=by rw[hl.st.len];exact iz.hi
 have hx':E.I x:=⟨hx.1,hs,hx.2.1,hx.2.2⟩;have hq:q.toNat<s.sp.length:=by omega
 unfold Afo;rw[if_neg (by omega)];have put:∀ y,Afu E.T y z→Agr E F (s.put q.toNat y):=fun y hy=>by
  refine⟨hu.1,fun i hi=>?_⟩;rw[Ef s hq]at hi ⊢
  split at hi
  ·next e=>subst e;rw[if_pos rfl];exact⟨z,hz,hy⟩
  ·next e=>rw[if_neg e];exact hu.2 i hi
 split
 ·exact put x hl
 ·next h2 =>
  have h2':(s.at q.toNat).st=true:=by simpa using h2
  split
  ·exact hu
  ·obtain⟨z',hz',hl'⟩:=hu.2 _ h2';rw[hz]at hz';cases hz';have e1:x.locals.length=(s.at q.toNat).fr.locals.length:=hl.lo.len.trans hl'.lo.len.symm;have e2:x.stack.length=(s.at q.toNat).fr.stack.length:=hl.st.len.trans hl'.st.len.symm;rw[if_pos ⟨e1,e2⟩];exact put _ ((Va g.T hx'.arg (Dp h h2').arg e1 e2).2.2 z iz.arg hl hl')
def Ai9 (E:Afj) (s:Afd) (q:Int) (y:Afb) (a:Bool):Prop:=0≤q∧q<(E.n:Int)∧(y.stack.length:Int)≤E.hi∧(∃ z,s.F q.toNat=some z∧Afu E.T y z)∧(a=true→(s.at q.toNat).wa=true)
theorem Ai9.up {E:Afj} (g:E.Good) {s s':Afd} (hs:E.Ok s) (h:Ah6 E s s') {q:Int}{y:Afb} (hy:Afy E.T y) {a:Bool} (ht:Ai9 E s q y a):Ai9 E s' q y a:=by
 obtain⟨h1,h2,h3,⟨z,hz,hl⟩,h5⟩:=ht;obtain⟨e1,rfl⟩:=Cy.1 hz;obtain⟨k1,k2⟩:=h.st _ e1;exact⟨h1,h2,h3,⟨_,Cy.2 ⟨k1,rfl⟩,hl.trans g k2 hy (Dp hs e1).arg (Dp h.ok k1).arg⟩,fun e=>h.wa _ (h5 e)⟩
structure Akg (E:Afj) (s s':Afd) (q:Int) (y:Afb) (a:Bool):Prop where
 up:Ah6 E s s'
 told:s'.hop=false→Ai9 E s' q y a
 st:∀ i,(s'.at i).st=true→(s.at i).st=true∨(i=q.toNat∧q<(E.n:Int))
 wa:∀ i,(s'.at i).wa=true→(s.at i).wa=true∨(i=q.toNat∧a=true)
theorem Fu {E:Afj} (g:E.Good) {s:Afd} (h:E.Ok s) (hn:s.sp.length=E.n) {x:Afb} (hx:x.locals.length=E.lo∧(∀ t∈x.locals,Afi E.T E.isN t)∧∀ t∈x.stack,Afi E.T E.isN t) (q:Int):Akg E s (Afo E.T E.hi x q s) q x false:=by
 obtain⟨a1,a2,a3,a4⟩:=Zf g h hn hx q;refine⟨a1,fun hh=>?_,a3,fun i hi=>.inl (by rw[← a4];exact hi)⟩;obtain⟨b1,b2,b3,b4,b5⟩:=a2 hh;exact⟨b1,b2,b3,⟨_,Cy.2 ⟨b4,rfl⟩,b5⟩,fun e=>by cases e⟩
theorem Ho {E:Afj} (g:E.Good) {s:Afd} (h:E.Ok s) (hn:s.sp.length=E.n) {x:Afb} (hx:x.locals.length=E.lo∧(∀ t∈x.locals,Afi E.T E.isN t)∧∀ t∈x.stack,Afi E.T E.isN t) (q:Int):Akg E s (Agz E.T E.hi x q s) q x true:=by
 have c:=Fu g h hn hx q;unfold Agz Ajm;have hlen:=c.up.len
 split
 ·next hc =>
  have hq:q.toNat<(Afo E.T E.hi x q s).sp.length:=by omega
  have u:=Ah6.want c.up.ok hq;refine⟨c.up.trans g h u,fun hh=>?_,fun i hi=>?_,fun i hi=>?_⟩
  ·have t:=(c.told hh).up g c.up.ok u ⟨fun t ht=>(hx.2.1 t ht).1,fun t ht=>(hx.2.2 t ht).1⟩;exact⟨t.1,t.2.1,t.2.2.1,t.2.2.2.1,fun _=>by rw[Fk _ hq,if_pos rfl]⟩
  ·rw[Fk _ hq]at hi
   split at hi
   ·next e=>subst e;exact c.st _ hi
   ·exact c.st i hi
  ·rw[Fk _ hq]at hi
   split at hi
   ·next e=>exact .inr ⟨e,rfl⟩
   ·rcases c.wa i hi with h|⟨_,h⟩
    ·exact .inl h
    ·cases h
 ·next hc =>
  refine⟨c.up,fun hh=>?_,c.st,fun i hi=>?_⟩
  ·have t:=c.told hh;exact absurd ⟨t.1,by rw[hlen,hn];exact t.2.1⟩ hc
  ·rcases c.wa i hi with h|⟨_,h⟩
   ·exact .inl h
   ·cases h
theorem Nf {E:Afj} (g:E.Good) {F:Nat→Option Afb} (hF:∀ p x,F p=some x→E.I x) {s:Afd} (h:E.Ok s) (hn:s.sp.length=E.n) (hu:Agr E F s) {x:Afb} (hx:x.locals.length=E.lo∧(∀ t∈x.locals,Afi E.T E.isN t)∧∀ t∈x.stack,Afi E.T E.isN t) {q:Int}
  (h0:0≤q) (h1:q<(E.n:Int)) {z:Afb} (hz:F q.toNat=some z) (hl:Afu E.T x z):Agr E F (Agz E.T E.hi x q s):=by
 have u:=Gu g hF h hn hu hx h0 h1 hz hl;unfold Agz Ajm
 split
 ·next hc =>
  have hq:q.toNat<(Afo E.T E.hi x q s).sp.length:=by omega
  refine⟨u.1,fun i hi=>?_⟩;rw[Fk _ hq]at hi ⊢
  split at hi
  ·next e=>subst e;rw[if_pos rfl];exact u.2 _ hi
  ·next e=>rw[if_neg e];exact u.2 i hi
 ·exact u
structure Ahq (E:Afj) (s s':Afd) (R:Int→Afb→Bool→Prop):Prop where
 up:Ah6 E s s'
 told:s'.hop=false→∀ q y a,R q y a→Ai9 E s' q y a
 st:∀ i,(s'.at i).st=true→(s.at i).st=true∨∃ q y a,R q y a∧i=q.toNat∧q<(E.n:Int)
 wa:∀ i,(s'.at i).wa=true→(s.at i).wa=true∨∃ q y,R q y true∧i=q.toNat
theorem Ahq.nil {E:Afj}{s:Afd} (h:E.Ok s) {R:Int→Afb→Bool→Prop} (hR:∀ q y a,¬ R q y a):Ahq E s s R:=⟨.refl h,fun _ q y a h=>absurd h (hR q y a),fun _ h=>.inl h,fun _ h=>.inl h⟩
theorem Ahq.one {E:Afj}{s s':Afd}{q:Int}{y:Afb}{a:Bool} (h:Akg E s s' q y a) {R:Int→Afb→Bool→Prop} (hR:∀ q' y' a',R q' y' a'↔q'=q∧y'=y∧a'=a):Ahq E s s' R :=
 ⟨h.up,fun hh q' y' a' hr=>by obtain⟨rfl,rfl,rfl⟩:=(hR q' y' a').1 hr;exact h.told hh,fun i hi=>(h.st i hi).imp id fun ⟨e1,e2⟩=>⟨q,y,a,(hR _ _ _).2 ⟨rfl,rfl,rfl⟩,e1,e2⟩,fun i hi=>(h.wa i hi).imp id fun ⟨e1,e2⟩=>⟨q,y,(hR _ _ _).2 ⟨rfl,rfl,e2.symm⟩,e1⟩⟩
theorem Ahq.trans {E:Afj} (g:E.Good) {s t u:Afd} (hs:E.Ok s) {A B R:Int→Afb→Bool→Prop} (h:Ahq E s t A) (k:Ahq E t u B) (hA:∀ q y a,A q y a→Afy E.T y) (hR:∀ q y a,R q y a↔A q y a∨B q y a):Ahq E s u R:=by
 refine⟨h.up.trans g hs k.up,fun hh q y a hr=>?_,fun i hi=>?_,fun i hi=>?_⟩
 ·have ht:t.hop=false:=by
   cases e:t.hop with
   | false=>rfl
   | true=>rw[k.up.hop e]at hh;cases hh
  rcases(hR q y a).1 hr with h1|h1
  ·exact(h.told ht q y a h1).up g h.up.ok k.up (hA q y a h1)
  ·exact k.told hh q y a h1
 ·rcases k.st i hi with h1|⟨q,y,a,h1,h2⟩
  ·exact(h.st i h1).imp id fun ⟨q,y,a,h1,h2⟩=>⟨q,y,a,(hR _ _ _).2 (.inl h1),h2⟩
  ·exact .inr ⟨q,y,a,(hR _ _ _).2 (.inr h1),h2⟩
 ·rcases k.wa i hi with h1|⟨q,y,h1,h2⟩
  ·exact(h.wa i h1).imp id fun ⟨q,y,h1,h2⟩=>⟨q,y,(hR _ _ _).2 (.inl h1),h2⟩
  ·exact .inr ⟨q,y,(hR _ _ _).2 (.inr h1),h2⟩
theorem Ff {E:Afj} (g:E.Good) {x:Afb} (hx:E.I x) (p:Nat):∀ (l:List Rd.Hnd),(∀ h∈l,h∈E.hs)→∀ {s:Afd},E.Ok s→s.sp.length=E.n →
  Ahq E s (Afn E.T E.hi (p:Int) x.locals l s) (fun q y a=>∃ h∈l,Af2 h (p:Int)=true∧q=h.target∧y=Agf x h∧a=true)
 | [],_,s,h0,_=>.nil h0 (by rintro q y a ⟨h,hh,_⟩;simp at hh)
 | h::r,hm,s,h0,hn=>by
  unfold Afn;have hf:(Agf x h).locals.length=E.lo∧(∀ t∈(Agf x h).locals,Afi E.T E.isN t)∧∀ t∈(Agf x h).stack,Afi E.T E.isN t :=
   ⟨hx.lo,hx.tl,fun t ht=>by rw[List.mem_singleton.1 ht];exact⟨(g.hnd h (hm h (by simp))).2.2.2,fun h=>by simp at h⟩⟩
  have h1:Ahq E s (if Af2 h (p:Int)=true then Agz E.T E.hi ⟨x.locals,[(3,h.cl)]⟩ h.target s else s) (fun q y a=>Af2 h (p:Int)=true∧q=h.target∧y=Agf x h∧a=true):=by
   split
   ·next hc=>exact .one (Ho g h0 hn hf h.target) (fun q y a=>by simp[hc])
   ·next hc=>exact .nil h0 (by rintro q y a ⟨h,_⟩;exact hc h)
  refine h1.trans g h0 (Ff g hx p r (fun z hz=>hm z (by simp[hz])) h1.up.ok (h1.up.len.trans hn)) ?_ (fun q y a=>?_)
  ·rintro q y a ⟨_,_,rfl,_⟩;exact⟨fun t ht=>(hf.2.1 t ht).1,fun t ht=>(hf.2.2 t ht).1⟩
  ·constructor
   ·rintro ⟨k,hk,hr⟩;rcases List.mem_cons.1 hk with rfl|hk
    ·exact .inl hr
    ·exact .inr ⟨k,hk,hr⟩
   ·rintro (hr|⟨k,hk,hr⟩)
    ·exact⟨h,by simp,hr⟩
    ·exact⟨k,by simp[hk],hr⟩
theorem Fl {E:Afj} (g:E.Good) {F:Nat→Option Afb} (hF:∀ p x,F p=some x→E.I x) {x:Afb} (hx:E.I x) (p:Nat):∀ (l:List Rd.Hnd),(∀ h∈l,h∈E.hs) →
  (∀ h∈l,Af2 h (p:Int)=true→∃ z,F h.target.toNat=some z∧Afu E.T (Agf x h) z)→∀ {s:Afd},E.Ok s→s.sp.length=E.n→Agr E F s→Agr E F (Afn E.T E.hi (p:Int) x.locals l s)
 | [],_,_,s,_,_,hu=>hu
 | h::r,hm,hz,s,h0,hn,hu=>by
  unfold Afn;have hg:=g.hnd h (hm h (by simp));have hf:(Agf x h).locals.length=E.lo∧(∀ t∈(Agf x h).locals,Afi E.T E.isN t)∧∀ t∈(Agf x h).stack,Afi E.T E.isN t :=
   ⟨hx.lo,hx.tl,fun t ht=>by rw[List.mem_singleton.1 ht];exact⟨hg.2.2.2,fun h=>by simp at h⟩⟩
  by_cases hc:Af2 h (p:Int)=true
  ·rw[if_pos hc];obtain⟨z,z1,z2⟩:=hz h (by simp) hc;have c:=Ho g h0 hn hf h.target;exact Fl g hF hx p r (fun z hz=>hm z (by simp[hz])) (fun z hz'=>hz z (by simp[hz'])) c.up.ok (c.up.len.trans hn) (Nf g hF h0 hn hu hf hg.1 hg.2.1 z1 z2)
  ·rw[if_neg hc];exact Fl g hF hx p r (fun z hz=>hm z (by simp[hz])) (fun z hz'=>hz z (by simp[hz'])) h0 hn hu
structure Aip (E:Afj) (bh:Cd.Ins→Afb→Option Afb) (i:Cd.Ins) (p:Nat):Prop where
 mem:p∈E.ps
 pl:i.place=(p:Int)
 op:i.op=E.op p
 ar:Afx (E.op p)=true→i.n=E.ar p
 rl:∀ x,E.I x→bh i x=E.rl p x
theorem Vr {E:Afj} (g:E.Good) {bh:Cd.Ins→Afb→Option Afb}{i:Cd.Ins}{p:Nat} (hi:Aip E bh i p) {x:Afb} (hx:E.I x) {s:Afd} (h0:E.Ok s) (hn:s.sp.length=E.n) :
  Ahq E s (Ah3 E.T E.hi E.hs bh i x s) (Ah2 E p x)∧((Ah3 E.T E.hi E.hs bh i x s).hop=false→∃ y,E.rl p x=some y):=by
 have hH:=Ff g hx p E.hs (fun h hh=>hh) h0 hn;have hHA:∀ q y a,(∃ h∈E.hs,Af2 h (p:Int)=true∧q=h.target∧y=Agf x h∧a=true)→Afy E.T y:=by
  rintro q y a ⟨h,hh,hc,rfl,rfl,rfl⟩;have:=J9 g hi.mem hx (.hnd h hh hc);exact⟨fun t ht=>(this.2.1 t ht).1,fun t ht=>(this.2.2 t ht).1⟩
 unfold Ah3;rw[hi.rl x hx,hi.pl,hi.op];cases hr:E.rl p x with
 | none =>
  refine⟨⟨hH.up.trans g h0 (.stop hH.up.ok),fun h=>(by cases h),fun i hi'=>?_,fun i hi'=>?_⟩,fun h=>(by cases h)⟩
  ·exact(hH.st i hi').imp id fun ⟨q,y,a,⟨h,hh,hc,e1,e2,e3⟩,h2⟩=>⟨q,y,a,by subst e1 e2 e3;exact .hnd h hh hc,h2⟩
  ·exact(hH.wa i hi').imp id fun ⟨q,y,⟨h,hh,hc,e1,e2,e3⟩,h2⟩=>⟨q,y,by subst e1 e2;exact .hnd h hh hc,h2⟩
 | some y =>
  have iy:=g.rl p hi.mem x y hx hr;have hy:y.locals.length=E.lo∧(∀ t∈y.locals,Afi E.T E.isN t)∧∀ t∈y.stack,Afi E.T E.isN t:=⟨iy.lo,iy.tl,iy.ts⟩;have h2:Ahq E s (if Afx (E.op p)=true then Agz E.T E.hi y i.n (Afn E.T E.hi (p:Int) x.locals E.hs s) else Afn E.T E.hi (p:Int) x.locals E.hs s)
    (fun q z a=>(∃ h∈E.hs,Af2 h (p:Int)=true∧q=h.target∧z=Agf x h∧a=true)∨(Afx (E.op p)=true∧q=E.ar p∧z=y∧a=true)):=by
   split
   ·next hj =>
    have c:=Ho g hH.up.ok (hH.up.len.trans hn) hy i.n;rw[hi.ar hj]at c ⊢;exact hH.trans g h0 (.one c (R:=fun q z a=>q=E.ar p∧z=y∧a=true) (fun _ _ _=>Iff.rfl)) hHA (fun q z a=>by simp[hj])
   ·next hj =>
    refine⟨hH.up,fun h q z a hh=>?_,fun i hi=>(hH.st i hi).imp id fun ⟨q,z,a,h1,h2⟩=>⟨q,z,a,.inl h1,h2⟩,fun i hi=>(hH.wa i hi).imp id fun ⟨q,z,h1,h2⟩=>⟨q,z,.inl h1,h2⟩⟩;rcases hh with hh | ⟨hh,_⟩
    ·exact hH.told h q z a hh
    ·exact absurd hh hj
  have h2A:∀ q z a,((∃ h∈E.hs,Af2 h (p:Int)=true∧q=h.target∧z=Agf x h∧a=true)∨(Afx (E.op p)=true∧q=E.ar p∧z=y∧a=true))→Afy E.T z:=by
   rintro q z a (hh|⟨_,_,rfl,_⟩)
   ·exact hHA q z a hh
   ·exact iy.arg
  refine⟨?_,fun _=>⟨y,rfl⟩⟩;simp only
  split
  ·next hg =>
   have c:=Fu g h2.up.ok (h2.up.len.trans hn) hy ((p:Int)+(Cd.wd (E.op p):Int));refine h2.trans g h0 (.one c (R:=fun q z a=>q=(p:Int)+(Cd.wd (E.op p):Int)∧z=y∧a=false) (fun _ _ _=>Iff.rfl)) h2A (fun q z a=>?_)
   constructor
   ·intro h;cases h using Ah2.el with
    | hnd h hh hc=>exact .inl (.inl ⟨h,hh,hc,rfl,rfl,rfl⟩)
    | jmp z h1 h2=>rw[hr]at h1;cases h1;exact .inl (.inr ⟨h2,rfl,rfl,rfl⟩)
    | nxt z h1 h2=>rw[hr]at h1;cases h1;exact .inr ⟨rfl,rfl,rfl⟩
   ·rintro ((⟨h,hh,hc,rfl,rfl,rfl⟩|⟨hj,rfl,rfl,rfl⟩)|⟨rfl,rfl,rfl⟩)
    ·exact .hnd h hh hc
    ·exact .jmp _ hr hj
    ·exact .nxt _ hr hg
  ·next hg =>
   refine⟨h2.up,fun h q z a hh=>h2.told h q z a ?_,fun i hi=>(h2.st i hi).imp id fun ⟨q,z,a,h1,h2⟩=>⟨q,z,a,?_,h2⟩,fun i hi=>(h2.wa i hi).imp id fun ⟨q,z,h1,h2⟩=>⟨q,z,?_,h2⟩⟩
   ·cases hh using Ah2.el with
    | hnd h hh hc=>exact .inl ⟨h,hh,hc,rfl,rfl,rfl⟩
    | jmp z h1 h2=>rw[hr]at h1;cases h1;exact .inr ⟨h2,rfl,rfl,rfl⟩
    | nxt z h1 h2=>exact absurd h2 hg
   ·rcases h1 with ⟨h,hh,hc,rfl,rfl,rfl⟩|⟨hj,rfl,rfl,rfl⟩
    ·exact .hnd h hh hc
    ·exact .jmp _ hr hj
   ·rcases h1 with ⟨h,hh,hc,rfl,rfl,_⟩|⟨hj,rfl,rfl,_⟩
    ·exact .hnd h hh hc
    ·exact .jmp _ hr hj
theorem Vw {E:Afj} (g:E.Good) {F:Nat→Option Afb} (hF:Ait E F) {bh:Cd.Ins→Afb→Option Afb}{i:Cd.Ins}{p:Nat} (hi:Aip E bh i p) {x z:Afb} (hx:E.I x) (hz:F p=some z) (hl:Afu E.T x z) {s:Afd} (h0:E.Ok s) (hn:s.sp.length=E.n) (hu:Agr E F s) :
  Agr E F (Ah3 E.T E.hi E.hs bh i x s):=by
 have sz:=hF.sat p hi.mem z hz;have iz:=hF.inv p z hz;have key:∀ {q u a},Ah2 E p x q u a→0≤q∧q<(E.n:Int)∧∃ v,F q.toNat=some v∧Afu E.T u v:=by
  intro q u a hg;obtain⟨u',k1,k2⟩:=Yd g hi.mem hx iz hl hg sz.rl;obtain⟨a1,a2,_,⟨v,a3,a4⟩,_⟩:=sz.go q u' a k1;have ou:=J9 g hi.mem hx hg;have ou':=J9 g hi.mem iz k1;exact⟨a1,a2,v,a3,k2.trans g a4 ⟨fun t ht=>(ou.2.1 t ht).1,fun t ht=>(ou.2.2 t ht).1⟩ ⟨fun t ht=>(ou'.2.1 t ht).1,fun t ht=>(ou'.2.2 t ht).1⟩ (hF.inv _ _ a3).arg⟩
 have hH:=Ff g hx p E.hs (fun h hh=>hh) h0 hn;have uH:=Fl g hF.inv hx p E.hs (fun h hh=>hh) (fun h hh hc=>(key (.hnd h hh hc)).2.2) h0 hn hu;obtain⟨zr,hzr⟩:=sz.rl;obtain⟨y,hr,_⟩:=g.mono p hi.mem x z zr hx iz hl hzr;have iy:=g.rl p hi.mem x y hx hr;have hy:y.locals.length=E.lo∧(∀ t∈y.locals,Afi E.T E.isN t)∧∀ t∈y.stack,Afi E.T E.isN t:=⟨iy.lo,iy.tl,iy.ts⟩;unfold Ah3;rw[hi.rl x hx,hi.pl,hi.op,hr];simp only;have h2:E.Ok (if Afx (E.op p)=true then Agz E.T E.hi y i.n (Afn E.T E.hi (p:Int) x.locals E.hs s) else Afn E.T E.hi (p:Int) x.locals E.hs s) ∧
   (if Afx (E.op p)=true then Agz E.T E.hi y i.n (Afn E.T E.hi (p:Int) x.locals E.hs s) else Afn E.T E.hi (p:Int) x.locals E.hs s).sp.length=E.n ∧
   Agr E F (if Afx (E.op p)=true then Agz E.T E.hi y i.n (Afn E.T E.hi (p:Int) x.locals E.hs s) else Afn E.T E.hi (p:Int) x.locals E.hs s):=by
  split
  ·next hj =>
   have c:=Ho g hH.up.ok (hH.up.len.trans hn) hy i.n;obtain⟨k1,k2,v,k3,k4⟩:=key (.jmp y hr hj);rw[hi.ar hj]at c ⊢;exact⟨c.up.ok,c.up.len.trans (hH.up.len.trans hn),Nf g hF.inv hH.up.ok (hH.up.len.trans hn) uH hy k1 k2 k3 k4⟩
  ·exact⟨hH.up.ok,hH.up.len.trans hn,uH⟩
 split
 ·next hg =>
  obtain⟨k1,k2,v,k3,k4⟩:=key (.nxt y hr hg);exact Gu g hF.inv h2.1 h2.2.1 h2.2.2 hy k1 k2 k3 k4
 ·exact h2.2.2
structure Ajz (E:Afj) (s:Afd):Prop where
 ok:E.Ok s
 len:s.sp.length=E.n
 sat:s.hop=false→∀ p∈E.ps,(s.at p).st=true→(s.at p).ri=false→(∃ y,E.rl p (s.at p).fr=some y)∧∀ q y a,Ah2 E p (s.at p).fr q y a→Ai9 E s q y a
 pl:∀ q,(s.at q).st=true→q∈E.ps
 why:∀ q,(s.at q).wa=true→∃ p∈E.ps,(s.at p).st=true∧Aj5 E p q
 x0:s.hop=false→∃ y,s.F 0=some y∧Afu E.T E.x0 y
abbrev Agm (E:Afj) (bh:Cd.Ins→Afb→Option Afb) (i:Cd.Ins) (x:Afb) (s:Afd):Afd:=Ah3 E.T E.hi E.hs bh i x s
theorem Ad1 {E:Afj} (g:E.Good) {bh:Cd.Ins→Afb→Option Afb}{i:Cd.Ins}{p:Nat} (hi:Aip E bh i p) {s:Afd} (h:Ajz E s) (hr:(s.at p).ri=true):Ajz E (Agm E bh i (s.at p).fr (s.calm p)):=by
 have hp:p<s.sp.length:=by rw[h.len];exact g.lt p hi.mem
 have hst:(s.at p).st=true:=(h.ok _ (Ag9 hp)).2 hr;have hx:=Dp h.ok hst;obtain⟨c1,c2,_⟩:=Ajk (K:=0) h.ok hp hr;have hn:(s.calm p).sp.length=E.n:=c2.trans h.len;obtain⟨c,cr⟩:=Vr g hi hx c1 hn;generalize hs':Agm E bh i (s.at p).fr (s.calm p)=s' at *;change Ah3 E.T E.hi E.hs bh i (s.at p).fr (s.calm p)=s' at hs';rw[hs']at c cr;have cst:∀ j,((s.calm p).at j).st=(s.at j).st:=fun j=>by rw[Gs s hp];split<;>rename_i e<;>simp[e]
 have cfr:∀ j,((s.calm p).at j).fr=(s.at j).fr:=fun j=>by rw[Gs s hp];split<;>rename_i e<;>simp[e]
 have cwa:∀ j,((s.calm p).at j).wa=(s.at j).wa:=fun j=>by rw[Gs s hp];split<;>rename_i e<;>simp[e]
 have cF:∀ j,(s.calm p).F j=s.F j:=fun j=>by unfold Afd.F;rw[cst,cfr]
 have ps':(s'.at p).st=true:=(c.up.st p (by rw[cst];exact hst)).1;refine⟨c.up.ok,c.up.len.trans hn,fun hh r hrp hrs hrr=>?_,fun q hq=>?_,fun q hq=>?_,fun hh=>?_⟩
 ·obtain⟨u1,u2,u3⟩:=c.up.ri r hrr;rw[u2,cfr];by_cases e:r=p
  ·subst e;exact⟨cr hh,fun q y a hg=>c.told hh q y a hg⟩
  ·have hop:(s.calm p).hop=false:=by
    cases e:(s.calm p).hop with
    | false=>rfl
    | true=>rw[c.up.hop e]at hh;cases hh
   have rr:(s.at r).ri=false:=by rw[Gs s hp,if_neg e]at u1;exact u1
   have rs:(s.at r).st=true:=by rw[← cst,← u3];exact hrs
   obtain⟨a1,a2⟩:=h.sat hop r hrp rs rr;refine⟨a1,fun q y a hg=>?_⟩;have og:=J9 g hrp (Dp h.ok rs) hg;have t:=a2 q y a hg;have t':Ai9 E (s.calm p) q y a:=⟨t.1,t.2.1,t.2.2.1,by rw[cF];exact t.2.2.2.1,by rw[cwa];exact t.2.2.2.2⟩;exact t'.up g c1 c.up ⟨fun t ht=>(og.2.1 t ht).1,fun t ht=>(og.2.2 t ht).1⟩
 ·rcases c.st q hq with h1|⟨q',y,a,hg,rfl,hlt⟩
  ·rw[cst]at h1;exact h.pl q h1
  ·exact Acz g hi.mem hg hlt
 ·rcases c.wa q hq with h1|⟨q',y,hg,rfl⟩
  ·rw[cwa]at h1;obtain⟨r,hr1,hr2,hr3⟩:=h.why q h1;exact⟨r,hr1,(c.up.st r (by rw[cst];exact hr2)).1,hr3⟩
  ·exact⟨p,hi.mem,ps',Abt hg⟩
 ·have hop:(s.calm p).hop=false:=by
   cases e:(s.calm p).hop with
   | false=>rfl
   | true=>rw[c.up.hop e]at hh;cases hh
  obtain⟨y,hy,hl⟩:=h.x0 hop;obtain⟨e1,rfl⟩:=Cy.1 hy;obtain⟨k1,k2⟩:=c.up.st 0 (by rw[cst];exact e1);rw[cfr]at k2;exact⟨_,Cy.2 ⟨k1,rfl⟩,hl.trans g k2 g.x0.arg (Dp h.ok e1).arg (Dp c.up.ok k1).arg⟩
theorem Ad4 {E:Afj} (g:E.Good) {F:Nat→Option Afb} (hF:Ait E F) {bh:Cd.Ins→Afb→Option Afb}{i:Cd.Ins}{p:Nat} (hi:Aip E bh i p) {s:Afd} (h:Ajz E s) (hr:(s.at p).ri=true) (hu:Agr E F s):Agr E F (Agm E bh i (s.at p).fr (s.calm p)):=by
 have hp:p<s.sp.length:=by rw[h.len];exact g.lt p hi.mem
 have hst:(s.at p).st=true:=(h.ok _ (Ag9 hp)).2 hr;obtain⟨c1,c2,_⟩:=Ajk (K:=0) h.ok hp hr;obtain⟨z,hz,hl⟩:=hu.2 p hst;refine Vw g hF hi (Dp h.ok hst) hz hl c1 (c2.trans h.len) ⟨hu.1,fun j hj=>?_⟩;have cst:((s.calm p).at j).st=(s.at j).st:=by rw[Gs s hp];split<;>rename_i e<;>simp[e]
 have cfr:((s.calm p).at j).fr=(s.at j).fr:=by rw[Gs s hp];split<;>rename_i e<;>simp[e]
 rw[cst]at hj;rw[cfr];exact hu.2 j hj
theorem W3 {E:Afj} (g:E.Good) {bh:Cd.Ins→Afb→Option Afb}:∀ (L:List Cd.Ins),(∀ i∈L,∃ p,Aip E bh i p)→∀ (b:Bool) {s:Afd},Ajz E s →
  Ajz E (Aff (Agm E bh) L b s).1∧(∀ F,Ait E F→Agr E F s→Agr E F (Aff (Agm E bh) L b s).1) ∧
  ((Aff (Agm E bh) L b s).2=false→b=false∧(Aff (Agm E bh) L b s).1=s∧∀ i∈L,(s.at i.place.toNat).ri=false)
 | [],_,b,s,h=>⟨h,fun _ _ hu=>hu,fun hb=>⟨hb,rfl,fun i hi=>by simp at hi⟩⟩
 | i::r,hL,b,s,h=>by
  obtain⟨p,hp⟩:=hL i (by simp);have ih:=fun b {s:Afd} h=>W3 g (bh:=bh) r (fun z hz=>hL z (by simp[hz])) b (s:=s) h;have hlt:p<s.sp.length:=by rw[h.len];exact g.lt p hp.mem
  have epl:i.place.toNat=p:=by rw[hp.pl];simp
  unfold Aff
  split
  ·next hc =>
   obtain⟨a1,a2,a3⟩:=ih b h;refine⟨a1,a2,fun hb=>?_⟩;obtain⟨b1,b2,b3⟩:=a3 hb;refine⟨b1,b2,fun z hz=>?_⟩;rcases List.mem_cons.1 hz with rfl|hz
   ·rcases hc with hc|hc
    ·rw[hp.pl]at hc;omega
    ·exact hc
   ·exact b3 z hz
  ·next hc =>
   have hr:(s.at p).ri=true:=by
    cases e:(s.at p).ri with
    | true=>rfl
    | false=>exact absurd (.inr (by rw[epl];exact e)) hc
   rw[epl];obtain⟨a1,a2,a3⟩:=ih true (Ad1 g hp h hr);refine⟨a1,fun F hF hu=>a2 F hF (Ad4 g hF hp h hr hu),fun hb=>?_⟩;exact absurd (a3 hb).1 (by simp)
theorem Qs {E:Afj} (g:E.Good) {bh:Cd.Ins→Afb→Option Afb}{L:List Cd.Ins} (hL:∀ i∈L,∃ p,Aip E bh i p) (hp:∀ i∈L,0≤i.place) {K:Nat} (hk:∀ i∈L,∀ x s,E.I x→E.Ok s→Ag3 E.T E.lo E.hi E.isN K s (Agm E bh i x s)) :
  ∀ (m:Nat) {s:Afd},Ajz E s→Aia E.T K s<m→Ajz E (Ahn (Agm E bh) L m s)∧(∀ F,Ait E F→Agr E F s→Agr E F (Ahn (Agm E bh) L m s)) ∧
   ((Ahn (Agm E bh) L m s).hop=false→∀ i∈L,((Ahn (Agm E bh) L m s).at i.place.toNat).ri=false)
 | 0,s,_,h=>absurd h (by omega)
 | m+1,s,h,hm=>by
  obtain⟨a1,a2,a3⟩:=W3 g (bh:=bh) L hL false h;have h1:=Ig (K:=K) L hp hk false h.ok;unfold Ahn
  split
  ·next hc =>
   have:=h1.2 hc.1 rfl;obtain⟨b1,b2,b3⟩:=Qs g hL hp hk m a1 (by omega);exact⟨b1,fun F hF hu=>b2 F hF (a2 F hF hu),b3⟩
  ·next hc =>
   refine⟨a1,a2,fun hh=>?_⟩;have:(Aff (Agm E bh) L false s).2=false:=by
    cases e:(Aff (Agm E bh) L false s).2 with
    | false=>rfl
    | true=>exact absurd ⟨e,hh⟩ hc
   obtain⟨_,b2,b3⟩:=a3 this;rw[b2];exact b3
def Aid (E:Afj):Afd:=⟨List.replicate E.n Ahe,false⟩
theorem Kf (E:Afj) (q:Nat):(Aid E).at q=Ahe:=by
 unfold Aid Afd.at;rw[List.getD_eq_getElem?_getD,List.getElem?_replicate]
 split<;>rfl
def Af6 (E:Afj) (bh:Cd.Ins→Afb→Option Afb) (L:List Cd.Ins):Afd:=Ajw E.T (Aix E.T E.lo E.hi) (Agm E bh) L (Afo E.T E.hi E.x0 0 (Aid E))
theorem N6 {E:Afj} (g:E.Good) {bh:Cd.Ins→Afb→Option Afb}{L:List Cd.Ins} (hL:∀ i∈L,∃ p,Aip E bh i p):∀ i∈L,∀ x s,E.I x→E.Ok s→Ag3 E.T E.lo E.hi E.isN (Aix E.T E.lo E.hi) s (Agm E bh i x s):=fun i hi x s hx hs=>by
 obtain⟨p,hp⟩:=hL i hi;exact Adc g.T hx (fun h hh=>(g.hnd h hh).2.2.2) (fun y hy=>by rw[hp.rl x hx]at hy;exact g.rl p hp.mem x y hx hy) hs
theorem Uq (E:Afj):E.Ok (Aid E):=fun p hp=>by
 have:=List.eq_of_mem_replicate hp;subst this;exact⟨fun h=>(by cases h),fun h=>(by cases h)⟩
theorem Ip {E:Afj} (g:E.Good) {bh:Cd.Ins→Afb→Option Afb}{L:List Cd.Ins} (hL:∀ i∈L,∃ p,Aip E bh i p) (hA:∀ p∈E.ps,∃ i∈L,i.place=(p:Int)) :
  E.Ok (Af6 E bh L)∧(Af6 E bh L).sp.length=E.n∧((Af6 E bh L).hop=false→Ait E (Af6 E bh L).F∧(∀ q,(Af6 E bh L).F q≠none→q∈E.ps)∧(∀ q,((Af6 E bh L).at q).wa=true↔∃ p∈E.ps,(Af6 E bh L).F p≠none∧Aj5 E p q)) ∧
  (∀ F,Ait E F→(Af6 E bh L).hop=false∧∀ p x,(Af6 E bh L).F p=some x→∃ y,F p=some y∧Afu E.T x y):=by
 have hz:0<E.n:=g.lt 0 g.zero;have i0:=Uq E;have il:(Aid E).sp.length=E.n:=by simp[Aid]
 have hx0:E.x0.locals.length=E.lo∧(∀ t∈E.x0.locals,Afi E.T E.isN t)∧∀ t∈E.x0.stack,Afi E.T E.isN t:=⟨g.x0.lo,g.x0.tl,g.x0.ts⟩;have c:=Fu g i0 il hx0 0;have J0:Ajz E (Afo E.T E.hi E.x0 0 (Aid E)):=by
  refine⟨c.up.ok,c.up.len.trans il,fun hh p hp hs hr=>?_,fun q hq=>?_,fun q hq=>?_,fun hh=>?_⟩
  ·obtain⟨_,_,e⟩:=c.up.ri p hr;rw[hs,Kf]at e;cases e
  ·rcases c.st q hq with h|⟨rfl,_⟩
   ·rw[Kf]at h;cases h
   ·exact g.zero
  ·rcases c.wa q hq with h|⟨_,h⟩
   ·rw[Kf]at h;cases h
   ·cases h
  ·exact(c.told hh).2.2.2.1
 have hpl:∀ i∈L,0≤i.place:=fun i hi=>by obtain⟨p,hp⟩:=hL i hi;rw[hp.pl];omega
 obtain⟨r1,r2,r3⟩:=Qs g hL hpl (N6 g hL) (Aia E.T (Aix E.T E.lo E.hi) (Afo E.T E.hi E.x0 0 (Aid E))+1) J0 (by omega);change Ajz E (Af6 E bh L) at r1;change ∀ F,Ait E F→_→Agr E F (Af6 E bh L) at r2;change (Af6 E bh L).hop=false→∀ i∈L,((Af6 E bh L).at i.place.toNat).ri=false at r3;refine⟨r1.ok,r1.len,fun hh=>⟨⟨fun p x hx=>?_,r1.x0 hh,fun p hp x hx=>?_⟩,fun q hq=>?_,fun q=>⟨fun hq=>?_,?_⟩⟩,fun F hF=>?_⟩
 ·obtain⟨e1,rfl⟩:=Cy.1 hx;exact Dp r1.ok e1
 ·obtain⟨e1,rfl⟩:=Cy.1 hx;obtain⟨i,hi,hip⟩:=hA p hp;have hr:=r3 hh i hi;rw[hip]at hr;obtain⟨s1,s2⟩:=r1.sat hh p hp e1 (by simpa using hr);exact⟨s1,fun q y a hg=>by obtain⟨t1,t2,t3,t4,_⟩:=s2 q y a hg;exact⟨t1,t2,t3,t4,fun _=>trivial⟩⟩
 ·cases e:(Af6 E bh L).F q with
  | none=>exact absurd e hq
  | some x=>exact r1.pl q (Cy.1 e).1
 ·obtain⟨p,h1,h2,h3⟩:=r1.why q hq;exact⟨p,h1,by rw[Cy.2 ⟨h2,rfl⟩];simp,h3⟩
 ·rintro ⟨p,h1,h2,h3⟩;have e1:((Af6 E bh L).at p).st=true:=by
   cases e:(Af6 E bh L).F p with
   | none=>exact absurd e h2
   | some x=>exact(Cy.1 e).1
  obtain⟨i,hi,hip⟩:=hA p h1;have hr:=r3 hh i hi;rw[hip]at hr;obtain⟨⟨y,hy⟩,s2⟩:=r1.sat hh p h1 e1 (by simpa using hr);rcases h3 with ⟨h,hm,hc,rfl⟩|⟨hj,rfl⟩
  ·exact(s2 _ _ _ (.hnd h hm hc)).2.2.2.2 rfl
  ·exact(s2 _ _ _ (.jmp y hy hj)).2.2.2.2 rfl
 ·obtain⟨y,hy,hl⟩:=hF.x0;have u0:Agr E F (Aid E):=⟨rfl,fun q hq=>by rw[Kf]at hq;cases hq⟩;have u1:=Gu g hF.inv i0 il u0 hx0 (q:=0) (by omega) (by omega) hy hl;have u2:=r2 F hF u1;exact⟨u2.1,fun p x hx=>by obtain⟨e1,rfl⟩:=Cy.1 hx;exact u2.2 p e1⟩
def Afq (cs:List Rd.Cls) (ms:List Rd.Mth) (m:Rd.Mth):Afj :=
 ⟨Tr.tree cs,m.locals.toNat,m.stack,Ajx m.code,m.code.length,Cd.places m.code,m.handlers,Agj cs ms m,fun p=>m.code.getD p 0,fun p=>Cd.atI m.code ((p:Int)+1),Agc m⟩
theorem Km (c:List Int):∀ (k p0:Nat),c.length≤p0+k→∀ q∈Cd.starts c k p0,q+Cd.wd (c.getD q 0)<c.length→q+Cd.wd (c.getD q 0)∈Cd.starts c k p0
 | 0,p0,_,q,hq,_=>by simp[Cd.starts]at hq
 | k+1,p0,hk,q,hq,hl=>by
  unfold Cd.starts at hq ⊢;by_cases hp:p0<c.length
  ·rw[if_pos hp]at hq ⊢;have hw:=Cd.wd_bd (c.getD p0 0);rcases List.mem_cons.1 hq with rfl | hq
   ·refine List.mem_cons_of_mem _ ?_;obtain⟨j,rfl⟩:∃ j,k=j+1:=⟨k-1,by omega⟩;unfold Cd.starts;rw[if_pos hl];exact List.mem_cons_self ..
   ·exact List.mem_cons_of_mem _ (Km c k _ (by omega) q hq hl)
  ·rw[if_neg hp]at hq;simp at hq
theorem Ll {c:List Int}{q:Nat} (hq:q∈Cd.places c) (hl:q+Cd.wd (c.getD q 0)<c.length):q+Cd.wd (c.getD q 0)∈Cd.places c:=Km c c.length 0 (by omega) q hq hl
theorem Jr {c:List Int}{q:Nat} (hq:q∈Cd.places c):q<c.length:=by
 have hb:Cd.begB c (q:Int)=true:=by unfold Cd.begB;rw[List.any_eq_true];exact⟨q,hq,by simp⟩
 have:=Gn hb;omega
theorem Kv {c:List Int} (h:0<c.length):0∈Cd.places c:=by
 unfold Cd.places;obtain⟨j,hj⟩:∃ j,c.length=j+1:=⟨c.length-1,by omega⟩;rw[hj];unfold Cd.starts;rw[if_pos h];exact List.mem_cons_self ..
theorem W8 {cs:List Rd.Cls}{ms:List Rd.Mth} (k:Ahb cs ms) {m:Rd.Mth} (hm:m∈ms) {p:Nat} (hp:p∈Cd.places m.code) {x y z:Afb} (hx:Ahg (Tr.tree cs) m x) (hy:Ahg (Tr.tree cs) m y) (h:Afu (Tr.tree cs) x y) (hz:Agj cs ms m p y=some z):∃ u,Agj cs ms m p x=some u∧Afu (Tr.tree cs) u z:=by
 have g:=k.mt m hm;have hn:=My g hp;unfold Agj at hz ⊢;rw[Nr]at hz ⊢;unfold Ags at hz ⊢;obtain⟨z1,hz1,hz2⟩:=Option.bind_eq_some_iff.1 hz;obtain⟨u,hu1,hu2⟩:=Vn (want:=Rf.all (Tr.tree cs) (Rf.given++cs) (Cd.atI m.code ((p:Int)+1)).toNat) k.ok (Fb hx) (Fb hy) (Oa k hm hn) (fun t ht=>(Dd (Jy k.fl _ _ t ht)).1) h hz1;by_cases hl:(z1.stack.length:Int)≤m.stack
 ·rw[if_pos hl]at hz2;cases hz2;refine⟨u,?_,hu2⟩;rw[hu1];show (if (u.stack.length:Int)≤m.stack then some u else none)=some u
  rw[if_pos (by rw[hu2.st.len];exact hl)]
 ·rw[if_neg hl]at hz2;cases hz2
theorem Aeq {T:List Int}{c:List Int}{h:Rd.Hnd} (hb:Cd.hndBad T c h=false):Cd.begB c h.target=true∧Tr.hasB T h.cl=true:=by
 unfold Cd.hndBad at hb;simp only[Bool.or_eq_false_iff,Bool.not_eq_eq_eq_not,Bool.not_false]at hb;exact⟨hb.1.1.1.2,hb.1.2⟩
theorem Fo {cs:List Rd.Cls}{ms:List Rd.Mth} (k:Ahb cs ms) {m:Rd.Mth} (hm:m∈ms) (hc:0<m.code.length):(Afq cs ms m).Good:=by
 have g:=k.mt m hm;refine⟨k.ok,Gt g,fun p hp x y hx h=>Gd k hm hp hx h,fun p hp x y z hx hy h hz=>W8 k hm hp hx hy h hz,fun p hp hj=>?_,fun p hp hn=>?_,fun h hh=>?_,Kv hc,fun p hp=>Jr hp⟩
 ·have ha:=g.arg p hp;unfold Cd.argAt at ha;rw[N7]at ha;show 0≤Cd.atI m.code ((p:Int)+1)∧Cd.atI m.code ((p:Int)+1)<(m.code.length:Int)∧(Cd.atI m.code ((p:Int)+1)).toNat∈Cd.places m.code;have hj':Afx (m.code.getD p 0)=true:=hj;generalize m.code.getD p 0=op at *;unfold Afx at hj';have hop:op=11∨op=12∨op=13∨op=14:=by simpa using hj'
  unfold Cd.argB at ha;rw[if_neg (by omega),if_pos (by omega)]at ha;have h1:=Gn ha;have h2:=Me ha;exact⟨by omega,by omega,h2⟩
 ·have hn':(p:Int)+(Cd.wd (m.code.getD p 0):Int)<(m.code.length:Int):=hn;have:=Ll hp (by omega);show ((p:Int)+(Cd.wd (m.code.getD p 0):Int)).toNat∈Cd.places m.code;rw[show ((p:Int)+(Cd.wd (m.code.getD p 0):Int)).toNat=p+Cd.wd (m.code.getD p 0) by omega];exact this
 ·obtain⟨h1,h2⟩:=Aeq (g.hnd h hh);have h3:=Gn h1;have h4:=Me h1;exact⟨by omega,(by show h.target<(m.code.length:Int);omega),h4,Do (Fe.1 h2)⟩
theorem Adb {cs:List Rd.Cls}{ms:List Rd.Mth} (k:Ahb cs ms) {m:Rd.Mth} (hm:m∈ms) {p:Nat} (hp:p∈Cd.places m.code):Aip (Afq cs ms m) (Afk cs ms m) (Cd.insAt m.code p) p:=by
 have g:=k.mt m hm;obtain⟨h25,hw⟩:=D6 g.unread p hp;refine⟨hp,rfl,rfl,fun hj=>?_,fun x hx=>Ft k hm hp hx⟩;have hj':Afx (m.code.getD p 0)=true:=hj;have h2:Cd.wd (m.code.getD p 0)=2:=by
  generalize m.code.getD p 0=op at *;unfold Afx at hj';have hop:op=11∨op=12∨op=13∨op=14:=by simpa using hj'
  unfold Cd.wd;rw[if_pos (by omega)]
 exact(Ii hw h2).1
theorem Nd {T:List Int}{nf:Int}{ms:List Rd.Mth}{m:Rd.Mth} (g:Ai5 T nf ms m):Cd.readL m.code=(Cd.places m.code).map (Cd.insAt m.code):=by
 have:=g.unread;unfold Cd.readL;rw[if_neg (by omega)];rfl
theorem Hi {cs:List Rd.Cls}{ms:List Rd.Mth} (k:Ahb cs ms) {m:Rd.Mth} (hm:m∈ms):(∀ i∈Cd.readL m.code,∃ p,Aip (Afq cs ms m) (Afk cs ms m) i p)∧∀ p∈(Afq cs ms m).ps,∃ i∈Cd.readL m.code,i.place=(p:Int):=by
 rw[Nd (k.mt m hm)]
 constructor
 ·intro i hi;obtain⟨p,hp,rfl⟩:=List.mem_map.1 hi;exact⟨p,Adb k hm hp⟩
 ·intro p hp;exact⟨Cd.insAt m.code p,List.mem_map.2 ⟨p,hp,rfl⟩,rfl⟩
def Agg (cs:List Rd.Cls) (ms:List Rd.Mth) (m:Rd.Mth):Afd:=Af6 (Afq cs ms m) (Afk cs ms m) (Cd.readL m.code)
def Af8 (cs:List Rd.Cls) (ms:List Rd.Mth) (m:Rd.Mth):Option (List Rd.Mp):=if (Agg cs ms m).hop=true then none else some (Af7 0 (Agg cs ms m).sp)
def Rd.Mon {α:Type} (f:Rd.St→α × Rd.St):Prop:=∀ t,t.bad=true→(f t).2.bad=true
theorem Dj (s:List UInt8):Rd.Mon (Rd.nx s):=fun t h=>by unfold Rd.nx;rw[if_pos h]
theorem Gv (s:List UInt8) (a b:Int):Rd.Mon (Rd.cn s a b):=fun t h=>by
 unfold Rd.cn
 split
 ·rfl
 ·split
  ·rfl
  ·exact Dj s t h
theorem W9 (s:List UInt8):Rd.Mon (Rd.ty s):=fun t h=>Dj s _ (Dj s t h)
theorem Fi {α:Type}{f:Rd.St→α × Rd.St} (hf:Rd.Mon f):∀ (n:Nat) (t:Rd.St),t.bad=true→(Rd.rep f n t).2.bad=true
 | 0,_,h=>h
 | n+1,t,h=>hf _ (Fi hf n t h)
theorem Np (s:List UInt8) (n:Nat):Rd.Mon (Rd.tys s n):=fun t h=>Fi (W9 s) n t h
theorem Acj (s:List UInt8):Rd.Mon (Rd.hnd s):=fun t h=>Dj s _ (Dj s _ (Dj s _ (Dj s t h)))
theorem Qv (s:List UInt8):Rd.Mon (Rd.hnds s):=fun t h=>Fi (Acj s) _ _ (Gv s 0 4 t h)
theorem Aes (s:List UInt8) (L H:Int):Rd.Mon (Rd.mp s L H):=fun t h=>Np s _ _ (Gv s 0 H _ (Np s _ _ (Dj s t h)))
theorem Zr (s:List UInt8):Rd.Mon (Rd.codes s):=fun t h=>Fi (Dj s) _ _ (Gv s 1 120 t h)
theorem Yh (s:List UInt8) (t:Rd.St) (h:(Rd.codes s t).2.bad=false):0<(Rd.codes s t).1.length:=by
 unfold Rd.codes at h ⊢;simp only at h ⊢;rw[Rd.rep_len];by_cases hc:(Rd.cn s 1 120 t).2.bad=true
 ·rw[Fi (Dj s) _ _ hc]at h;cases h
 ·unfold Rd.cn at hc ⊢
  split at hc
  ·exact absurd rfl hc
  ·split at hc
   ·exact absurd rfl hc
   ·next h1 h2=>rw[if_neg h1,if_neg h2];omega
theorem Uy (s:List UInt8) (L H:Int):Rd.Mon (Rd.mps s L H):=fun t h=>Fi (Aes s L H) _ _ (Gv s 0 64 t h)
theorem Ny (s:List UInt8):Rd.Mon (Rd.mth s):=fun t h=>by
 unfold Rd.mth;exact Uy s _ _ _ (Qv s _ (Zr s _ (Gv s 0 8 _ (Gv s 0 8 _ (W9 s _ (Np s _ _ (Gv s 0 4 _ (Dj s _ (Dj s t h)))))))))
theorem Sl (s:List UInt8) (t:Rd.St) (h:(Rd.mth s t).2.bad=false):0<(Rd.mth s t).1.code.length:=by
 unfold Rd.mth at h ⊢;simp only at h ⊢;refine Yh s _ ?_;generalize Rd.codes s _=c at h ⊢;cases hc:c.2.bad with
 | false=>rfl
 | true=>rw[Uy s _ _ _ (Qv s _ hc)]at h;cases h
theorem So (s:List UInt8):∀ (n:Nat) (t:Rd.St),(Rd.rep (Rd.mth s) n t).2.bad=false→∀ m∈(Rd.rep (Rd.mth s) n t).1,0<m.code.length
 | 0,_,_,m,hm=>by simp[Rd.rep]at hm
 | n+1,t,h,m,hm=>by
  unfold Rd.rep at h hm;simp only at h hm;rcases List.mem_append.1 hm with hm | hm
  ·refine So s n t ?_ m hm;cases hc:(Rd.rep (Rd.mth s) n t).2.bad with
   | false=>rfl
   | true=>rw[Ny s _ hc]at h;cases h
  ·rw[List.mem_singleton.1 hm];exact Sl s _ h
theorem Jx (s:List UInt8) (h:(Rd.read s).2=0):∀ m∈(Rd.read s).1.methods,0<m.code.length:=by
 unfold Rd.read at h ⊢
 split
 ·simp
 ·next h1 =>
  rw[if_neg h1]at h
  split
  ·simp
  ·next h2 =>
   rw[if_neg h2]at h;simp only[Rd.fil]at h2 ⊢;refine So s _ _ ?_;generalize (Rd.rep (Rd.mth s) _ _).2=t at *;cases hb:t.bad with
   | false=>rfl
   | true=>exact absurd (.inl hb) h2
variable {ya:Option Addr}{yn yc:Nat}
theorem Aa4 {α β γ:Type} (f:α→β→γ) (a:List α) (b:List β) (k:Nat) (h1:k<a.length) (h2:k<b.length):List.zipWith f (a.take (k+1)) (b.take (k+1))=List.zipWith f (a.take k) (b.take k)++[f a[k] b[k]]:=by
 rw[List.take_succ_eq_append_getElem h1,List.take_succ_eq_append_getElem h2,List.zipWith_append (by simp;omega)];rfl
theorem Bh {w w':World}{k1 k2 k3 o:Nat}{u0 u1 u2 u3 u4 u5:Value} (l1:k1<w.heap.size) (l2:k2<w.heap.size) (l3:k3<w.heap.size)
  (h:w.cell? ⟨k1,0,none⟩=some u0∧w.cell? ⟨k1,1,none⟩=some u1∧w.cell? ⟨k2,0,none⟩=some u2∧w.cell? ⟨k2,1,none⟩=some u3∧w.cell? ⟨k3,o,none⟩=some u4∧w.cell? ⟨k3,o+1,none⟩=some u5) (hb:Below w.heap.size w w') :
  w'.cell? ⟨k1,0,none⟩=some u0∧w'.cell? ⟨k1,1,none⟩=some u1∧w'.cell? ⟨k2,0,none⟩=some u2∧w'.cell? ⟨k2,1,none⟩=some u3∧w'.cell? ⟨k3,o,none⟩=some u4∧w'.cell? ⟨k3,o+1,none⟩=some u5 :=
 ⟨QC hb l1 h.1,QC hb l1 h.2.1,QC hb l2 h.2.2.1,QC hb l2 h.2.2.2.1,QC hb l3 h.2.2.2.2.1,QC hb l3 h.2.2.2.2.2⟩
theorem Jc (T:List Int) (tg tc:Nat) (a b:List (Int × Int)) (aa ab:Option Addr) (an ac bn bc:Nat) (w:World) (hl:T.length≤1000) (hT:TreeIn w tg T) (ha:TyR w (.slice aa an ac) a) (hb:TyR w (.slice ab bn bc) b) (hal:a.length≤10000) (hne:a.length=b.length) :
  Calls Tryz.prog 219 #[.agg #[.slice (some ⟨tg,0,none⟩) T.length tc,.slice ya yn yc],.slice aa an ac,.slice ab bn bc] w fun e w'=>∃ ja jn jc,e=.returned (.slice ja jn jc)∧TyR w' (.slice ja jn jc) (List.zipWith (Tr.joinT T) a b)∧Below w.heap.size w w':=by
 obtain⟨e1,-,-⟩:=ha.cap;obtain⟨e2,-,-⟩:=hb.cap;subst e1 e2;obtain⟨i0,hi,hz0,hz1,hz2⟩:=info_parts Tryz.infoType;have hB0:Below w.heap.size w (w.alloc (O2 (some ⟨tg,0,none⟩) T.length tc ya yn yc)):=QN _;have T0:=Ad w (O2 (some ⟨tg,0,none⟩) T.length tc ya yn yc);have HNE:=Ac hne;clear hne;go_enter Tryz.func219,Tryz.ntmps219;go_wp2
 go_loopw [7,13] (fun v i wr=>∃ k:Nat,k≤a.length∧i=.int .i64 (k:Int)∧wr.ownsRow (w.heap.size+1) 31 2 v k (An (List.zipWith (Tr.joinT T) (a.take k) (b.take k)))∧Below w.heap.size w wr∧wr.heap[w.heap.size]?=some (O2 (some ⟨tg,0,none⟩) T.length tc ya yn yc))
  (fun _ i _=>a.length-(intOf i).toNat)
 case atStart=>exact⟨0,by omega,rfl,World.ownsRow_nil _ _ _ _,hB0,T0⟩
 case round =>
  clear hB0 T0;obtain⟨k,hk,rfl,hown,hB,hC⟩:=hrel;have hBs:=hB.size;have hne:=Aa HNE;obtain⟨ua,uc,rfl⟩:=Ae hown;by_cases hkn:k<a.length
  ·have hkb:k<b.length:=by omega
   obtain⟨g,o,rfl,hg,hat⟩:=(ha.below hB).at (by omega);obtain⟨g2,o2,rfl,hg2,hat2⟩:=(hb.below hB).at (by omega);obtain⟨x0,x1⟩:=hat k hkn;obtain⟨y0,y1⟩:=hat2 k hkb;have hd:=Aa4 (Tr.joinT T) a b k hkn hkb;generalize a[k]=s at *;generalize b[k]=t at *;obtain⟨s1,s2⟩:=s;obtain⟨t1,t2⟩:=t;simp only at x0 x1 y0 y1;have f0:(wr.alloc (O7 s1 s2)).cell? ⟨w.heap.size,0,none⟩=some (.slice (some ⟨tg,0,none⟩) T.length tc):=(Ab (Af hC (O7 s1 s2)) 0).trans rfl;have f1:(wr.alloc (O7 s1 s2)).cell? ⟨w.heap.size,1,none⟩=some (.slice ya yn yc):=(Ab (Af hC (O7 s1 s2)) 1).trans rfl;have p0:(wr.alloc (O7 s1 s2)).cell? ⟨wr.heap.size,0,none⟩=some (.int .i64 s1):=(Ab (Ad wr (O7 s1 s2)) 0).trans rfl;have p1:(wr.alloc (O7 s1 s2)).cell? ⟨wr.heap.size,1,none⟩=some (.int .i64 s2):=(Ab (Ad wr (O7 s1 s2)) 1).trans rfl;have z0:=(World.cell?_alloc_lt wr (O7 s1 s2) ⟨g2,o2+k*2,none⟩ hg2).trans y0;have z1:=(World.cell?_alloc_lt wr (O7 s1 s2) ⟨g2,o2+k*2+1,none⟩ hg2).trans y1;have lF:=lt_of_block (Af hC (O7 s1 s2));have lP:=lt_of_block (Ad wr (O7 s1 s2));have lG:g2<(wr.alloc (O7 s1 s2)).heap.size:=by simp;omega
   have hBX:=(hB.alloc hBs (O7 s1 s2)).drew;have hc:=fun w' (h:Below w.heap.size w w')=>Xd (ya:=ya) (yn:=yn) (yc:=yc) T tg tc s1 s2 t1 t2 w' hl (hT.below h);generalize Tr.joinT T (s1,s2) (t1,t2)=j at *;obtain⟨j1,j2⟩:=j;simp only at hc;have HC:=Ac hc;have HD:=Ac hd;have kb:(k:Int)<(a.length:Int):=by omega
   have kb2:(k:Int)<(b.length:Int):=by omega
   have hb1:Below wr.heap.size wr (wr.alloc (O7 s1 s2)).drew:=((Below.refl _ wr).alloc (Nat.le_refl _) _).drew;have hF6:(wr.alloc (O7 s1 s2)).drew.cell? ⟨w.heap.size,0,none⟩=some (.slice (some ⟨tg,0,none⟩) T.length tc)∧(wr.alloc (O7 s1 s2)).drew.cell? ⟨w.heap.size,1,none⟩=some (.slice ya yn yc)∧(wr.alloc (O7 s1 s2)).drew.cell? ⟨wr.heap.size,0,none⟩=some (.int .i64 s1)∧(wr.alloc (O7 s1 s2)).drew.cell? ⟨wr.heap.size,1,none⟩=some (.int .i64 s2)∧(wr.alloc (O7 s1 s2)).drew.cell? ⟨g2,o2+k*2,none⟩=some (.int .i64 t1)∧(wr.alloc (O7 s1 s2)).drew.cell? ⟨g2,o2+k*2+1,none⟩=some (.int .i64 t2):=⟨f0,f1,p0,p1,z0,z1⟩;have Z0:((wr.alloc (O7 s1 s2)).alloc (O7 0 0)).drew.heap[wr.heap.size+1]?=some (O7 0 0):=Ah wr (O7 s1 s2) (O7 0 0);have hBZ:Below (wr.alloc (O7 s1 s2)).drew.heap.size (wr.alloc (O7 s1 s2)).drew ((wr.alloc (O7 s1 s2)).alloc (O7 0 0)).drew:=⟨rfl,rfl,rfl,by simp[World.drew],fun k hk=>(((Below.refl _ (wr.alloc (O7 s1 s2))).alloc (Nat.le_refl _) (O7 0 0)).block k hk)⟩;have lZ:(wr.alloc (O7 s1 s2)).drew.heap.size≤((wr.alloc (O7 s1 s2)).alloc (O7 0 0)).drew.heap.size:=hBZ.size;have hBX2:Below w.heap.size w ((wr.alloc (O7 s1 s2)).alloc (O7 0 0)).drew:=((hB.alloc hBs (O7 s1 s2)).alloc (hB.alloc hBs (O7 s1 s2)).size (O7 0 0)).drew;replace lF:w.heap.size<(wr.alloc (O7 s1 s2)).drew.heap.size:=lF;replace lP:wr.heap.size<(wr.alloc (O7 s1 s2)).drew.heap.size:=lP;replace lG:g2<(wr.alloc (O7 s1 s2)).drew.heap.size:=lG;clear hat hat2 hc hne hd
   go_upto_region 6 with fail
   go_cut [10] from 14 to 33 (fun s10 wx=>∃ jb,s10=.pointer (some ⟨jb,0,none⟩)∧wx.heap[jb]?=some (O7 j1 j2)∧Below wr.heap.size wr wx)
   case first =>
    go_wp2
    go_region_held3 (fun w'=>w'.cell? ⟨w.heap.size,0,none⟩=some (.slice (some ⟨tg,0,none⟩) T.length tc)∧w'.cell? ⟨w.heap.size,1,none⟩=some (.slice ya yn yc)∧w'.cell? ⟨wr.heap.size,0,none⟩=some (.int .i64 s1)∧w'.cell? ⟨wr.heap.size,1,none⟩=some (.int .i64 s2)∧w'.cell? ⟨g2,o2+k*2,none⟩=some (.int .i64 t1)∧w'.cell? ⟨g2,o2+k*2+1,none⟩=some (.int .i64 t2))
     (first | (with_reducible exact hF6) | (with_reducible exact Bh lF lP lG hF6 hb7) | (with_reducible exact Bh lF lP lG hF6 (hb7.alloc hb7.size _)) | (with_reducible exact Bh lF lP lG hF6 hBZ) | (with_reducible exact Bh lF lP lG hF6 (hBZ.trans (hb7.mono lZ))) | (with_reducible exact Bh lF lP lG hF6 ((hBZ.trans (hb7.mono lZ)).setCell (by simp) _)) | (with_reducible exact Bh lF lP lG hF6 (((hBZ.trans (hb7.mono lZ)).setCell (by simp) _).setCell (by simp) _)))
     (first | (go_at_call 179;refine(Aa HC _ (by first | (with_reducible exact hBX) | (with_reducible exact hBX2))).mono ?_;rintro e w7 ⟨rfl,hb7⟩;try (have Z7:=stay hb7 Z0;have z0':=Ab Z7 0;have z1':=Ab Z7 1;have q0':=Ag Z7 0;have q1':=Ag Z7 1;simp at z0' z1')))
    all_goals
     go_wp2
     go_meet
    ·exact⟨_,rfl,Ad w7 _,hb1.trans ((hb7.mono (by simp[World.drew])).alloc (Nat.le_trans (by simp[World.drew]) hb7.size) _)⟩
    ·exact⟨_,rfl,Ei Z7 _ _,(((hb1.trans (hBZ.mono (by simp[World.drew]))).trans (hb7.mono (by simp[World.drew];omega))).setCell (by simp) _).setCell (by simp) _⟩
   case rest =>
    obtain⟨jb,rfl,JB,hbx⟩:=hcut;have hBx:=hB.trans (hbx.mono hBs);have hsx:=hBx.size;have hCx:=stay hbx hC;have hownx:=Am hown (Kp.of_below (e:=none) hbx) (by decide);have j0:=Ab JB 0;have j1':=Ab JB 1;have lJ:=lt_of_block JB;simp at j0 j1';clear hbx hown hB hBs hC f0 f1 p0 p1 z0 z1 hF6 lF lP lG Z0 hBZ lZ hBX2 hBX hb1 x0 x1 y0 y1 hg hg2;go_wp2_with (at_builtin;refine wpList_append_own _ rfl _ _ 105 rfl (w.heap.size+1) 31 i0 _ 2 16 Tryz.underlying105 hi hz0 hz1 hz2 rfl (by decide) _ _ _ rfl (hownx.alloc _) ⟨wc.heap.size,0,none⟩ 1 1 [.int .i64 j1,.int .i64 j2] rfl rfl ?c1 ?c2 ?c3 ?c4 ?c5 ?_)
    case c1=>exact Ar _ _ _ _ rfl
    case c2=>intro u hu;simp at hu;rcases hu with rfl | rfl<;>rfl
    case c3=>unfold maxLen;omega
    case c4=>omega
    case c5=>simp;omega
    intro v' w2 hown2 hgrow _;have hB2:=(hBx.alloc hsx (O7 j1 j2)).grown hgrow (by simp;omega) (fun j hj=>by have:=(hownx.lt j hj).1;omega);have hC2:=(hgrow.block _ (by simp;omega) (fun hh=>by have:=(hownx.lt _ hh.symm).1;omega)).trans (Af hCx (O7 j1 j2));have hown3:w2.ownsRow (w.heap.size+1) 31 2 v' (k+1) (An (List.zipWith (Tr.joinT T) (a.take (k+1)) (b.take (k+1)))):=by rw[Aa HD,Ew];exact hown2
    clear hgrow hown2 hownx hCx hBx JB j0 j1';go_wp2
    go_roundw
    case rel=>exact⟨k+1,by omega,by go_num,hown3,hB2,hC2⟩
    case measure=>simp[intOf];omega
  ·have kb:¬ (k:Int)<(a.length:Int):=by omega
   have ek:k=a.length:=by omega
   have HEK:=Ac ek;clear ek;go_wp2;go_ret;refine⟨ua,k,uc,rfl,?_,hB⟩;have:=Fd (l:=List.zipWith (Tr.joinT T) (a.take k) (b.take k)) (n:=k) hown (by simp;omega)
   rwa [List.take_of_length_le (by have:=Aa HEK;omega),List.take_of_length_le (by have:=Aa HEK;omega)]at this
theorem Zu (T:List Int) (tg tc:Nat) (u v:FrV) (x y:Afb) (w:World) (hl:T.length≤1000) (hT:TreeIn w tg T) (hu:u.is x w) (hv:v.is y w) :
  Calls Tryz.prog 168 #[u.val,.agg #[.slice (some ⟨tg,0,none⟩) T.length tc,.slice ya yn yc],v.val] w fun e w'=>∃ z:FrV,e=.returned (.tuple #[z.val,.bool (decide (x.locals.length=y.locals.length∧x.stack.length=y.stack.length))])∧((x.locals.length=y.locals.length∧x.stack.length=y.stack.length)→z.is (Ahu T x y) w')∧Below w.heap.size w w':=by
 have h1:=fun w' (h:Below w.heap.size w w') hne=>Jc (ya:=ya) (yn:=yn) (yc:=yc) T tg tc x.locals y.locals u.la v.la u.ln u.lc v.ln v.lc w' hl (hT.below h) (hu.lo.below h) (hv.lo.below h) (by have:=hu.hl;omega) hne;have h2:=fun w' (h:Below w.heap.size w w') hne=>Jc (ya:=ya) (yn:=yn) (yc:=yc) T tg tc x.stack y.stack u.sa v.sa u.sn u.sc v.sn v.sc w' hl (hT.below h) (hu.st.below h) (hv.st.below h) (by have:=hu.hs;omega) hne;have hll:=hu.hl;have hls:=hu.hs;obtain⟨la,ln,lc,sa,sn,sc⟩:=u;obtain⟨la',ln',lc',sa',sn',sc'⟩:=v;obtain⟨e1,-,-⟩:=hu.lo.cap;obtain⟨e2,-,-⟩:=hu.st.cap;obtain⟨e3,-,-⟩:=hv.lo.cap;obtain⟨e4,-,-⟩:=hv.st.cap;simp only[FrV.val]at h1 h2 e1 e2 e3 e4 ⊢;subst e1 e2 e3 e4;have H1:=Ac h1;have H2:=Ac h2;clear h1 h2 hu hv;obtain⟨xl,xs⟩:=x;obtain⟨yl,ys⟩:=y;simp only at H1 H2 hll hls ⊢;have hB0:=Cq w (O18 la xl.length lc sa xs.length sc) (O2 (some ⟨tg,0,none⟩) T.length tc ya yn yc) (O18 la' yl.length lc' sa' ys.length sc') (O18 none 0 0 none 0 0);obtain⟨A0,T0,B0,Z0⟩:=Bp w (O18 la xl.length lc sa xs.length sc) (O2 (some ⟨tg,0,none⟩) T.length tc ya yn yc) (O18 la' yl.length lc' sa' ys.length sc') (O18 none 0 0 none 0 0);by_cases c1:xl.length=yl.length
 ·by_cases c2:xs.length=ys.length
  ·rw[decide_eq_true ⟨c1,c2⟩];have n1:((xl.length:Int) != (yl.length:Int))=false:=by simp[c1]
   have n2:((xs.length:Int) != (ys.length:Int))=false:=by simp[c2]
   have HJ1:=Ac (Aa H1 _ hB0 c1);have HC2:=Ac c2;have HC1:=Ac c1;clear c1 c2;go_enter Tryz.func168,Tryz.ntmps168;go_wp2_with fail
   refine(Aa HJ1).mono ?_;rintro e w1 ⟨ja,jn,jc,rfl,ht1,hb1⟩;have hB1:=QB hB0 hb1;have a1:=Ab (stay hb1 A0) 1;have t0:=Ab (stay hb1 T0) 0;have t1:=Ab (stay hb1 T0) 1;have b1:=Ab (stay hb1 B0) 1;have Z1:=stay hb1 Z0;simp at a1 t0 t1 b1;have HJ2:=Ac (Aa H2 _ hB1 (Aa HC2));clear hb1;go_wp2_with fail
   refine(Aa HJ2).mono ?_;rintro e w2 ⟨ka,kn,kc,rfl,ht2,hb2⟩;have hB2:=QB hB1 hb2;have Z2:=stay hb2 Z1;obtain⟨z0,z1⟩:=cl2 Z2;obtain⟨q0,q1⟩:=fr2 Z2;have lZ:=lt_of_block Z2;simp at z0 z1;have ht1':=ht1.below hb2;clear hb2;go_wp2;refine bodyPost_ret (v:=.tuple #[.agg #[.slice ja jn jc,.slice ka kn kc],.bool true]) (by simp[results,Tryz.results168,go_sem,z0,z1]) rfl ?_;refine⟨⟨ja,jn,jc,ka,kn,kc⟩,rfl,fun _=>⟨ht1'.set_frame Z2 _ _,ht2.set_frame Z2 _ _,?_,?_⟩,(hB2.setCell (by simp;omega) _).setCell (by simp;omega) _⟩
   ·have:=Aa HC1;simp[Ahu];omega
   ·have:=Aa HC2;simp[Ahu];omega
  ·rw[decide_eq_false (fun h=>c2 h.2)];have n1:((xl.length:Int) != (yl.length:Int))=false:=by simp[c1]
   have n2:((xs.length:Int) != (ys.length:Int))=true:=by simp;omega
   obtain⟨z0,z1⟩:=cl2 Z0;obtain⟨q0,q1⟩:=fr2 Z0;have lZ:=lt_of_block Z0;simp at z0 z1;have HC2:=Ac c2;clear c1 c2;go_enter Tryz.func168,Tryz.ntmps168;go_wp2;refine bodyPost_ret (v:=.tuple #[.agg #[.slice none 0 0,.slice none 0 0],.bool false]) (by simp[results,Tryz.results168,go_sem,z0,z1]) rfl ?_;exact⟨⟨none,0,0,none,0,0⟩,rfl,fun h=>absurd h.2 (Aa HC2),hB0⟩
 ·rw[decide_eq_false (fun h=>c1 h.1)];have n1:((xl.length:Int) != (yl.length:Int))=true:=by simp;omega
  obtain⟨z0,z1⟩:=cl2 Z0;obtain⟨q0,q1⟩:=fr2 Z0;have lZ:=lt_of_block Z0;simp at z0 z1;have HC2:=Ac c1;clear c1;go_enter Tryz.func168,Tryz.ntmps168;go_wp2;refine bodyPost_ret (v:=.tuple #[.agg #[.slice none 0 0,.slice none 0 0],.bool false]) (by simp[results,Tryz.results168,go_sem,z0,z1]) rfl ?_;exact⟨⟨none,0,0,none,0,0⟩,rfl,fun h=>absurd h.1 (Aa HC2),hB0⟩
end Go.Proofs.YtpcgnjolfahacaaGreat
