/- the proof's parts -/
import Derived.Test.YtpcgnjolfahacaaGreatPk06
set_option maxRecDepth 100000
set_option maxHeartbeats 40000000
set_option linter.unusedVariables false
set_option linter.unusedSimpArgs false
set_option linter.defProp false
namespace Go.Proofs.YtpcgnjolfahacaaGreat
open Go.RowKit Go.Proofs.Tryz
variable{x:Be}{c:Int}{j u:Nat}{b:PBd}{z:TI}{w:TW}
abbrev Zg(T:List Int)(s t:Int × Int):Prop:=Tr.fitsB T s.1 s.2 t.1 t.2=true
def Da (T:TI):TP->TP->Prop
 | [],[]=>True
 | s::a,t::b=>Zg T s t/\Da T a b
 | _,_=>False
def Da.nil:Da z [] []:=trivial
def Da.cons{C t:Int×Int}{a p:TP}(h:Zg z C t)(k:Da z a p):Da z (C::a) (t::p):=⟨h,k⟩
def Da.el{T:TI}{P:(a b:TP)->Da T a b->Prop}(nil:P [] [] .nil)(cons:∀{s t:Int×Int}{a b:TP} (h:Zg T s t) (k:Da T a b),P a b k->P (s::a) (t::b) (.cons h k)):∀{a b:TP} (h:Da T a b),P a b h
 | [],[],_=>nil
 | [],_::_,h=>False.elim h
 | _::_,[],h=>False.elim h
 | _::_,_::_,h=>cons h.1 h.2 (Da.el nil cons h.2)
structure Ew(T:List Int)(x y:Be):Prop where
 lo:Da T x.locals y.locals
 st:Da T x.stack y.stack
def Da.len{a p:TP}(h:Da z a p):a.length=p.length:=by
 induction h using Da.el with
 | nil=>rfl
 | cons _ _ ih=>simp[ih]
def Da.refl(T:TI)(a:TP):Da T a a:=by
 induction a with
 | nil=>exact .nil
 | cons x r ih=>exact .cons (Tr.fits_refl _ _ _) ih
def Da.trans(l:Tr.Ok z){a p c:TP}(h:Da z a p)(g:Da z p c)(f:∀t∈a,Tr.Arg z t.1 t.2)(i:∀t∈p,Tr.Arg z t.1 t.2)(j:∀t∈c,Tr.Arg z t.1 t.2):Da z a c:=by
 induction h using Da.el generalizing c with
 | nil=>exact g
 | cons h1 h2 ih =>
  cases g using Da.el with
  | cons g1 g2=>exact .cons (Tr.fits_trans l (f _ Fr) (i _ Fr) (j _ Fr) h1 g1) (ih g2 (fun t e=>f t (by simp[e])) (fun t e=>i t (by simp[e])) (fun t e=>j t (by simp[e])))
def Da.getD{a p:TP}(h:Da z a p)(i:Nat):Zg z (a.getD i (0,0)) (p.getD i (0,0)):=by
 induction h using Da.el generalizing i with
 | nil=>exact Tr.fits_refl _ _ _
 | cons h1 _ ih =>
  cases i with
  | zero=>simpa using h1
  | succ i=>simpa using ih i
def Da.set{a b:TP}(h:Da z a b)(i:Nat){C t:Int×Int}(c:Zg z C t):Da z (a.set i C) (b.set i t):=by
 induction h using Da.el generalizing i with
 | nil=>exact .nil
 | cons h1 h2 ih =>
  cases i with
  | zero=>exact .cons c h2
  | succ i=>exact .cons h1 (ih i)
def Da.take{a p:TP}(h:Da z a p)(i:Nat):Da z (a.take i) (p.take i):=by
 induction h using Da.el generalizing i with
 | nil=>simpa using Da.nil
 | cons h1 h2 ih =>
  cases i with
  | zero=>exact .nil
  | succ i=>exact .cons h1 (ih i)
def Da.drop{a p:TP}(h:Da z a p)(i:Nat):Da z (a.drop i) (p.drop i):=by
 induction h using Da.el generalizing i with
 | nil=>simpa using Da.nil
 | cons h1 h2 ih =>
  cases i with
  | zero=>exact .cons h1 h2
  | succ i=>exact ih i
def Da.append{a p c d:TP}(h:Da z a p)(g:Da z c d):Da z (a++c) (p++d):=by
 induction h using Da.el with
 | nil=>exact g
 | cons h1 _ ih=>exact .cons h1 ih
def Bhg{C:Int×Int}(h:Zg z C (4,c)):C=(4,c):=by
 rcases(Tr.fits_iff ..).1 h with ⟨a,b⟩ | e|⟨e,_⟩|⟨e,_⟩
 ·exact Bxd a b
 ·exact absurd e Fr
 ·exact absurd e Fr
 exact absurd e Fr
def Bpx{C:Int×Int}(h:Zg z (4,c) C):C=(4,c)\/C.1=0:=by
 rcases(Tr.fits_iff ..).1 h with ⟨a,b⟩ | e|⟨_,e⟩|⟨_,e,_⟩
 ·exact .inl (Bxd a.symm b.symm)
 ·exact .inr e
 ·exact absurd e Fr
 exact absurd e Fr
def Da.turned{a p:TP}(h:Da z a p)(c:Int)(u:Int×Int):Da z (Er (4,c) u a) (Er (4,c) u p):=by
 induction h using Da.el with
 | nil=>exact .nil
 | @cons s t a p h1 _ ih =>
  refine Da.cons ?_ ih;show Zg z (if s=(4,c) then u else s) (if t=(4,c) then u else t)
  by_cases e:s=(4,c)
  ·subst e;rw[Sp rfl];rcases Bpx h1 with rfl|f
   ·rw[Sp rfl];exact Tr.fits_refl _ _ _
   rw[Pf (by rintro rfl;simp at f)];exact(Tr.fits_iff ..).2 (.inr (.inl f))
  rw[Pf e];by_cases g:t=(4,c);·subst g;exact absurd (Bhg h1) e
  rw[Pf g];exact h1
def Bof(l:Tr.Ok z){a p:TP}(h:Da z a p)(g:∀t∈a,Tr.Arg z t.1 t.2)(i:∀t∈p,Tr.Arg z t.1 t.2):∀{c:TP},(∀t∈c,Tr.Arg z t.1 t.2)->Ee z p c=true->Ee z a c=true:=by
 induction h using Da.el with
 | nil=>exact fun _ h=>h
 | cons h1 _ ih =>
  intro c j f;cases c with
  | nil=>simp[Ee]
  | cons u c =>
   simp only[Ee,Bwk]at f ⊢;exact⟨Tr.fits_trans l (g _ Fr) (i _ Fr) (j _ Fr) h1 f.1,ih (fun t e=>g t (by simp[e])) (fun t e=>i t (by simp[e])) (fun t e=>j t (by simp[e])) f.2⟩
def Bmf(g:Tr.Ok z){a p c:TP}(h:Da z a p)(j:∀t∈a,Tr.Arg z t.1 t.2)(l:∀t∈p,Tr.Arg z t.1 t.2)(i:∀t∈c,Tr.Arg z t.1 t.2)(f:Ig z p c=true):Ig z a c=true:=by
 unfold Ig at f ⊢;rw[h.len];by_cases m:p.length<c.length;·rw[Sp m]at f;cases f
 rw[Pf m]at f ⊢;rw[Pg g _ _ (fun t e=>l t (Bxe e)) i]at f;rw[Pg g _ _ (fun t e=>j t (Bxe e)) i];exact Bof g (h.drop _) (fun t e=>j t (Bxe e)) (fun t e=>l t (Bxe e)) i f
def Bkr(v:Tr.Ok z){q lv want:TP}{arg:Int->Int}{op n:Int}{y b:Be}(A:Ey z x)(B:Ey z y)(O:∀t∈q,Tr.Arg z t.1 t.2)(Q:∀t∈want,Tr.Arg z t.1 t.2)(h:Ew z x y) (f:Mz z q lv want arg c op n y=some b):∃u,Mz z q lv want arg c op n x=some u/\Ew z u b:=by
 have el:=h.lo.len;have j:=h.st.len;unfold Mz at f ⊢;by_cases C:op=2
 ·rw[Sp C]at f ⊢;have l:=h.lo.getD n.toNat;by_cases D:(y.locals.getD n.toNat (0,0)).1=0;·rw[Sp D]at f;cases f
  rw[Pf D]at f;have V:(x.locals.getD n.toNat (0,0)).1≠0:=by
   intro e;rcases(Tr.fits_iff ..).1 l with ⟨a,_⟩ | a|⟨_,a⟩|⟨_,a,_⟩<;>omega
  rw[Pf V];cases f;exact⟨_,rfl,h.lo,h.st.append (.cons l .nil)⟩
 rw[Pf C]at f ⊢;by_cases F:op=3
 ·rw[Sp F,j]at *;by_cases g:y.stack.length<1;·rw[Sp g]at f;cases f
  rw[Pf g]at f ⊢;cases f;exact⟨_,rfl,h.lo.set _ (h.st.getD _),h.st.take _⟩
 rw[Pf F]at f ⊢;by_cases G:op=4
 ·rw[Sp G,j]at *;by_cases g:y.stack.length<1;·rw[Sp g]at f;cases f
  rw[Pf g]at f ⊢;cases f;exact⟨_,rfl,h.lo,h.st.take _⟩
 rw[Pf G]at f ⊢;by_cases I:op=5
 ·rw[Sp I,j]at *;by_cases g:y.stack.length<1;·rw[Sp g]at f;cases f
  rw[Pf g]at f ⊢;cases f;exact⟨_,rfl,h.lo,h.st.append (h.st.drop _)⟩
 rw[Pf I]at f ⊢;by_cases J:op=6
 ·rw[Sp J,j]at *;by_cases g:y.stack.length<2;·rw[Sp g]at f;cases f
  rw[Pf g]at f ⊢;cases f;exact⟨_,rfl,h.lo,(h.st.take _).append (.cons (h.st.getD _) (.cons (h.st.getD _) .nil))⟩
 rw[Pf J]at f ⊢;by_cases K:op=15;·rw[Sp K]at f ⊢;cases f;exact⟨_,rfl,h.lo.turned _ _,(h.st.turned _ _).append (.cons (Tr.fits_refl _ _ _) .nil)⟩
 rw[Pf K]at f ⊢;by_cases L:op=16
 ·rw[Sp L]at f ⊢;unfold Yh at f ⊢;rw[j]at *;by_cases i:Ig z y.stack want=false;·rw[Sp i]at f;cases f
  have s:=Bmf v h.st A.2 B.2 Q (by simpa using i);rw[Pf i]at f;rw[Pf (by simp[s])];by_cases g:y.stack.length<want.length+1;·rw[Sp g]at f;cases f
  rw[Pf g]at f ⊢;have l:=h.st.getD (y.stack.length-want.length-1);have Y:=h.st.take (y.stack.length-want.length-1);generalize y.stack.getD (y.stack.length-want.length-1) (0,0)=r at *;generalize x.stack.getD (y.stack.length-want.length-1) (0,0)=r' at *;by_cases m:r.1≠4;·rw[Sp m]at f;cases f
  rw[Pf m]at f;obtain⟨Z,r2⟩:=r;have:Z=4:=by simpa using m
  subst this;have e:=Bhg l;subst e;rw[Pf m];by_cases N:arg r2≠n;·rw[Sp N]at f;cases f
  rw[Pf N]at f ⊢;cases f;exact⟨_,rfl,h.lo.turned _ _,Y.turned _ _⟩
 rw[Pf L]at f ⊢;by_cases i:Ig z y.stack q=false;·rw[Sp i]at f;cases f
 have s:=Bmf v h.st A.2 B.2 O (by simpa using i);rw[Pf i,j]at *;rw[Pf (by simp[s])];cases f;exact⟨_,rfl,h.lo,(h.st.take _).append (.refl _ _)⟩
structure Df where
 T:List Int
 lo:Nat
 hi:Int
 isN:Int->Prop
 n:Nat
 ps:List Nat
 hs:List Rd.Hnd
 rl:Nat->Be->Option Be
 op:Nat->Int
 ar:Nat->Int
 x0:Be
abbrev Df.I(E:Df)(x:Be):Prop:=J6 E.T E.lo E.hi E.isN x
def Df.nx(E:Df)(p:Nat):Int:=(p:Int)+(Cd.wd (E.op p):Int)
structure Df.Good(E:Df):Prop where
 T:Tr.Ok E.T
 x0:E.I E.x0
 rl:∀p∈E.ps,∀x y,E.I x->E.rl p x=some y->E.I y
 mono:∀p∈E.ps,∀x y z,E.I x->E.I y->Ew E.T x y->E.rl p y=some z->∃u,E.rl p x=some u/\Ew E.T u z
 tgt:∀p∈E.ps,Dx (E.op p)=true->0<=E.ar p/\E.ar p<(E.n:Int)/\(E.ar p).toNat∈E.ps
 nxt:∀p∈E.ps,E.nx p<(E.n:Int)->(E.nx p).toNat∈E.ps
 hnd:∀h∈E.hs,0<=h.target/\h.target<(E.n:Int)/\h.target.toNat∈E.ps/\Tr.Arg E.T 3 h.cl
 zero:0∈E.ps
 lt:∀p∈E.ps,p<E.n
def Gp (x:Be)(h:Rd.Hnd):Be:=⟨x.locals,[(3,h.cl)]⟩
def Fc (E:Df)(p:Nat)(x:Be)(q:Int)(y:Be)(a:Bool):Prop :=
 (∃h,h∈E.hs/\El h (p:Int)=true/\q=h.target/\y=Gp x h/\a=true)\/(E.rl p x=some y/\Dx (E.op p)=true/\q=E.ar p/\a=true)\/(E.rl p x=some y/\Dz (E.op p)=true/\q=E.nx p/\a=false)
def Fc.hnd{E:Df}(h:Rd.Hnd)(k:h∈E.hs)(c:El h (u:Int)=true):Fc E u x h.target (Gp x h) true:=Or.inl ⟨h,k,c,rfl,rfl,rfl⟩
def Fc.jmp{E:Df}(y:Be)(k:E.rl u x=some y)(c:Dx (E.op u)=true):Fc E u x (E.ar u) y true:=Or.inr (Or.inl ⟨k,c,rfl,rfl⟩)
def Fc.nxt{E:Df}(y:Be)(k:E.rl u x=some y)(c:Dz (E.op u)=true):Fc E u x (E.nx u) y false:=Or.inr (Or.inr ⟨k,c,rfl,rfl⟩)
def Fc.el{E:Df}{p:Nat}{x:Be}{P:(q:Int)->(y:Be)->(a:Bool)->Fc E p x q y a->Prop}(hnd:∀(h:Rd.Hnd) (k:h∈E.hs) (c:El h (p:Int)=true),P _ _ _ (.hnd h k c))(jmp:∀(y:Be) (k:E.rl p x=some y) (c:Dx (E.op p)=true),P _ _ _ (.jmp y k c))(nxt:∀(y:Be) (k:E.rl p x=some y) (c:Dz (E.op p)=true),P _ _ _ (.nxt y k c)){q:Int}{y:Be}{a:Bool}(h:Fc E p x q y a):P q y a h:=by
 rcases h with ⟨h,k,c,rfl,rfl,rfl⟩|⟨k,c,rfl,rfl⟩|⟨k,c,rfl,rfl⟩
 ·exact hnd h k c
 ·exact jmp y k c
 exact nxt y k c
structure Buw(E:Df)(F:Nat->Option Be)(W:Nat->Prop)(p:Nat)(x:Be):Prop where
 rl:∃y,E.rl p x=some y
 go:∀q y a,Fc E p x q y a->0<=q/\q<(E.n:Int)/\(y.stack.length:Int)<=E.hi/\(∃z,F q.toNat=some z/\Ew E.T y z)/\(a=true->W q.toNat)
structure Tc(E:Df)(F:Nat->Option Be):Prop where
 inv:∀p x,F p=some x->E.I x
 x0:∃y,F 0=some y/\Ew E.T E.x0 y
 sat:∀p∈E.ps,∀x,F p=some x->Buw E F (fun _=>True) p x
def Bc2 (E:Df)(p q:Nat):Prop:=(∃h∈E.hs,El h (p:Int)=true/\h.target.toNat=q)\/(Dx (E.op p)=true/\(E.ar p).toNat=q)
def Ew.refl(T:TI)(x:Be):Ew T x x:=⟨.refl _ _,.refl _ _⟩
def Ew.trans{E:Df}(g:E.Good){y z:Be}(h:Ew E.T x y)(k:Ew E.T y z)(b:Ey E.T x)(c:Ey E.T y)(e:Ey E.T z):Ew E.T x z :=
 ⟨h.lo.trans g.T k.lo b.1 c.1 e.1,h.st.trans g.T k.st b.2 c.2 e.2⟩
def Su{T:TI}:∀{a b:TP},a.length=b.length->(Ee T a b=true<->Da T a b)
 | [],[],_=>⟨fun _=>.nil,fun _=>rfl⟩
 | [],_::_,h=>by simp at h
 | _::_,[],h=>by simp at h
 | s::a,t::b,h=>by
  have c:=Su (T:=T) (a:=a) (b:=b) (by simpa using h);simp only[Ee,Bwk]
  constructor
  ·rintro ⟨e,f⟩;exact .cons e (c.1 f)
  intro k;cases k using Da.el with
  | cons k1 k2=>exact⟨k1,c.2 k2⟩
def Bbm{y:Be}:Hx z x y=true<->Ew z x y:=by
 unfold Hx Mu
 constructor
 ·intro h;simp only[Bwk]at h;obtain⟨b,c⟩:=h
  split at b
  ·next e1 =>
   split at c
   ·next e2=>exact⟨(Su e1).1 b,(Su e2).1 c⟩
   cases c
  cases b
 intro h;rw[Sp h.lo.len,Sp h.st.len,(Su h.lo.len).2 h.lo,(Su h.st.len).2 h.st];rfl
def Bbk(f:Tr.Ok z):∀(a b:TP),(∀t∈a,Tr.Arg z t.1 t.2)->(∀t∈b,Tr.Arg z t.1 t.2)->a.length=b.length ->
  Da z a (List.zipWith (Tr.joinT z) a b)/\Da z b (List.zipWith (Tr.joinT z) a b)/\∀c,(∀t∈c,Tr.Arg z t.1 t.2)->Da z a c->Da z b c->Da z (List.zipWith (Tr.joinT z) a b) c
 | [],[],_,_,_=>⟨.nil,.nil,fun c _ h _=>h⟩
 | [],_::_,_,_,h=>by simp at h
 | _::_,[],_,_,h=>by simp at h
 | s::a,t::b,ha,hb,h=>by
  obtain⟨i,j,l⟩:=Bbk f a b (fun t e=>ha t (by simp[e])) (fun t e=>hb t (by simp[e])) (by simpa using h);obtain⟨_,m,p,q⟩:=Tr.join_spec f (k:=s.1) (n:=s.2) (k':=t.1) (n':=t.2) (ha s Fr) (hb t Fr);refine⟨.cons m i,.cons p j,fun c g v A=>?_⟩;cases v using Da.el with
  | cons h11 h12 =>
   cases A using Da.el with
   | cons h21 h22=>exact .cons (q _ _ (g _ Fr) h11 h21) (l _ (fun t e=>g t (by simp[e])) h12 h22)
def Bjj(c:Tr.Ok z){y:Be}(e:Ey z x)(f:Ey z y)(j:x.locals.length=y.locals.length)(l:x.stack.length=y.stack.length):Ew z x (Lv z x y)/\Ew z y (Lv z x y)/\∀b,Ey z b->Ew z x b->Ew z y b->Ew z (Lv z x y) b:=by
 obtain⟨m,p,q⟩:=Bbk c x.locals y.locals e.1 f.1 j;obtain⟨s,t,v⟩:=Bbk c x.stack y.stack e.2 f.2 l;exact⟨⟨m,s⟩,⟨p,t⟩,fun b g h i=>⟨q _ g.1 h.lo i.lo,v _ g.2 h.st i.st⟩⟩
def Bn5{E:Df}(g:E.Good)(j:u∈E.ps){y:Be}(l:E.I x)(m:E.I y)(h:Ew E.T x y){b:Be}{a:Bool}(t:Fc E u x c b a)(s:∃z,E.rl u y=some z):∃z,Fc E u y c z a/\Ew E.T b z:=by
 cases t using Fc.el with
 | hnd k hk hc=>exact⟨_,.hnd k hk hc,h.lo,.refl _ _⟩
 | jmp _ h1 h2 =>
  obtain⟨z,e⟩:=s;obtain⟨v,f,i⟩:=g.mono u j x y z l m h e;rw[h1]at f;cases f;exact⟨z,.jmp z e h2,i⟩
 | nxt _ h1 h2 =>
  obtain⟨z,e⟩:=s;obtain⟨v,f,i⟩:=g.mono u j x y z l m h e;rw[h1]at f;cases f;exact⟨z,.nxt z e h2,i⟩
def Bad{E:Df}(g:E.Good)(f:u∈E.ps)(e:E.I x){b:Be}{a:Bool}(i:Fc E u x c b a):b.locals.length=E.lo/\(∀t∈b.locals,Dj E.T E.isN t)/\∀t∈b.stack,Dj E.T E.isN t:=by
 cases i using Fc.el with
 | hnd k hk hc=>exact⟨e.lo,e.tl,fun t j=>by rw[List.mem_singleton.1 j];exact⟨(g.hnd k hk).2.2.2,fun h=>by simp at h⟩⟩
 | jmp _ h1 _=>have:=g.rl u f x b e h1;exact⟨this.lo,this.tl,this.ts⟩
 | nxt _ h1 _=>have:=g.rl u f x b e h1;exact⟨this.lo,this.tl,this.ts⟩
def Bqw{E:Df}{b:Be}(e:Fc E u x c b true):Bc2 E u c.toNat:=by
 cases e using Fc.el with
 | hnd k hk hc=>exact .inl ⟨k,hk,hc,rfl⟩
 | jmp _ h1 h2=>exact .inr ⟨h2,rfl⟩
def Bs0{E:Df}(g:E.Good)(e:u∈E.ps){b:Be}{a:Bool}(f:Fc E u x c b a)(h:c<(E.n:Int)):c.toNat∈E.ps:=by
 cases f using Fc.el with
 | hnd k hk hc=>exact(g.hnd k hk).2.2.1
 | jmp _ h1 h2=>exact(g.tgt u e h2).2.2
 | nxt _ h1 _=>exact g.nxt u e h
def Bt.F (s:Bt)(q:Nat):Option Be:=if (s.at q).st=true then some (s.at q).fr else none
def Ol{Y:Bt}:Y.F u=some x<->(Y.at u).st=true/\(Y.at u).fr=x:=by
 unfold Bt.F
 split
 ·next h=>simp[h]
 next h=>simp[h]
def at_out{Y:Bt}(h:Y.sp.length<=u):Y.at u=Jz:=by unfold Bt.at;rw[Th,Bwz h];rfl
def Bu1{Y:Bt}(h:(Y.at u).st=true):u<Y.sp.length:=by
 by_cases b:u<Y.sp.length;·exact b
 rw[at_out Bd]at h;cases h
abbrev Df.Ok(E:Df)(s:Bt):Prop:=Ll E.T E.lo E.hi E.isN s
def Ov{E:Df}{Y:Bt}(h:E.Ok Y)(b:(Y.at u).st=true):E.I (Y.at u).fr:=(h _ (Jf (Bu1 b))).1 b
structure My(E:Df)(s s':Bt):Prop where
 ok:E.Ok s'
 len:s'.sp.length=s.sp.length
 hop:s.hop=true->s'.hop=true
 st:∀q,(s.at q).st=true->(s'.at q).st=true/\Ew E.T (s.at q).fr (s'.at q).fr
 wa:∀q,(s.at q).wa=true->(s'.at q).wa=true
 ri:∀q,(s'.at q).ri=false->(s.at q).ri=false/\(s'.at q).fr=(s.at q).fr/\(s'.at q).st=(s.at q).st
def My.refl{E:Df}{Y:Bt}(h:E.Ok Y):My E Y Y:=⟨h,rfl,fun h=>h,fun q h=>⟨h,.refl _ _⟩,fun _ h=>h,fun _ h=>⟨h,rfl,rfl⟩⟩
def My.trans{E:Df}(g:E.Good){a b c:Bt}(m:E.Ok a)(h:My E a b)(k:My E b c):My E a c:=by
 refine⟨k.ok,k.len.trans h.len,fun x=>k.hop (h.hop x),fun q e=>?_,fun q e=>k.wa q (h.wa q e),fun q e=>?_⟩
 ·obtain⟨f,j⟩:=h.st q e;obtain⟨i,l⟩:=k.st q f;exact⟨i,j.trans g l (Ov m e).arg (Ov h.ok f).arg (Ov k.ok i).arg⟩
 obtain⟨i,l,p⟩:=k.ri q e;obtain⟨f,j,s⟩:=h.ri q i;exact⟨f,l.trans j,p.trans s⟩
def My.stop{E:Df}{Y:Bt}(h:E.Ok Y):My E Y Y.stop:=⟨h,rfl,fun _=>rfl,fun q h=>⟨h,.refl _ _⟩,fun _ h=>h,fun _ h=>⟨h,rfl,rfl⟩⟩
def Rb(s:Bt)(b:u<s.sp.length)(y:Be)(i:Nat):(s.put u y).at i=if i=u then ⟨y,true,true,(s.at u).wa⟩ else s.at i:=by
 unfold Bt.put Bt.at;simp only[Th,Bxi];by_cases e:u=i;·subst e;simp[b]
 rw[Pf e,Pf (fun h=>e h.symm)]
def Te(s:Bt)(b:u<s.sp.length)(i:Nat):(s.want u).at i=if i=u then ⟨(s.at u).fr,(s.at u).st,(s.at u).ri,true⟩ else s.at i:=by
 unfold Bt.want Bt.at;simp only[Th,Bxi];by_cases e:u=i;·subst e;simp[b]
 rw[Pf e,Pf (fun h=>e h.symm)]
def Vn(s:Bt)(b:u<s.sp.length)(i:Nat):(s.calm u).at i=if i=u then ⟨(s.at u).fr,(s.at u).st,false,(s.at u).wa⟩ else s.at i:=by
 unfold Bt.calm Bt.at;simp only[Th,Bxi];by_cases e:u=i;·subst e;simp[b]
 rw[Pf e,Pf (fun h=>e h.symm)]
def My.put{E:Df}{Y:Bt}(h:E.Ok Y)(c:u<Y.sp.length){y:Be}(g:E.I y)(j:(Y.at u).st=true->Ew E.T (Y.at u).fr y):My E Y (Y.put u y):=by
 refine⟨fun p f=>?_,by simp[Bt.put],fun h=>h,fun i b=>?_,fun i b=>?_,fun i b=>?_⟩
 ·rcases Bw6 f with f|rfl
  ·exact h p f
  exact⟨fun _=>g,fun _=>rfl⟩
 ·rw[Rb Y c]
  split
  ·next e=>subst e;exact⟨rfl,j b⟩
  exact⟨b,.refl _ _⟩
 ·rw[Rb Y c]
  split
  ·next e=>subst e;exact b
  exact b
 rw[Rb Y c]at b ⊢
 split at b
 ·cases b
 next e=>rw[Pf e];exact⟨b,rfl,rfl⟩
def My.want{E:Df}{Y:Bt}(h:E.Ok Y)(c:u<Y.sp.length):My E Y (Y.want u):=by
 refine⟨fun p f=>?_,by simp[Bt.want],fun h=>h,fun i b=>?_,fun i b=>?_,fun i b=>?_⟩
 ·rcases Bw6 f with f|rfl
  ·exact h p f
  exact⟨(h _ (Jf c)).1,(h _ (Jf c)).2⟩
 ·rw[Te Y c]
  split
  ·next e=>subst e;exact⟨b,.refl _ _⟩
  exact⟨b,.refl _ _⟩
 ·rw[Te Y c]
  split
  ·rfl
  exact b
 rw[Te Y c]at b ⊢
 split at b
 ·next e=>subst e;rw[Sp rfl];exact⟨b,rfl,rfl⟩
 next e=>rw[Pf e];exact⟨b,rfl,rfl⟩
def Bou{E:Df}(g:E.Good){Y:Bt}(h:E.Ok Y)(z:Y.sp.length=E.n)(f:x.locals.length=E.lo/\(∀t∈x.locals,Dj E.T E.isN t)/\∀t∈x.stack,Dj E.T E.isN t)(q:Int):My E Y (D9 E.T E.hi x q Y)/\((D9 E.T E.hi x q Y).hop=false->0<=q/\q<(E.n:Int)/\(x.stack.length:Int)<=E.hi/\((D9 E.T E.hi x q Y).at q.toNat).st=true/\Ew E.T x ((D9 E.T E.hi x q Y).at q.toNat).fr)/\(∀i,((D9 E.T E.hi x q Y).at i).st=true->(Y.at i).st=true\/(i=q.toNat/\q<(E.n:Int)))/\(∀i,((D9 E.T E.hi x q Y).at i).wa=(Y.at i).wa):=by
 unfold D9
 split
 ·exact⟨.stop h,fun h=>(by cases h),fun i b=>.inl b,fun _=>rfl⟩
 next hc =>
 have j:E.I x:=⟨f.1,Bd,f.2.1,f.2.2⟩;have c:q.toNat<Y.sp.length:=Bd
 split
 ·next h1 =>
  refine⟨.put h c j (fun e=>by rw[h1]at e;cases e),fun _=>⟨Bd,Bd,Bd,?_⟩,fun i b=>?_,fun i=>?_⟩
  ·rw[Rb Y c,Sp rfl];exact⟨rfl,.refl _ _⟩
  ·rw[Rb Y c]at b
   split at b
   ·next e=>exact .inr ⟨e,Bd⟩
   exact .inl b
  rw[Rb Y c]
  split
  ·next e=>rw[e]
  rfl
 next h1 =>
 have l:(Y.at q.toNat).st=true:=by simpa using h1
 have m:=Ov h l
 split
 ·next h2=>exact⟨.refl h,fun _=>⟨Bd,Bd,Bd,l,Bbm.1 h2⟩,fun i b=>.inl b,fun _=>rfl⟩
 split
 ·next h3 =>
  obtain⟨p,v,A⟩:=Bjj g.T j.arg m.arg h3.1 h3.2;refine⟨.put h c (Bg0 g.T j m) (fun _=>v),fun _=>⟨Bd,Bd,Bd,?_⟩,fun i b=>?_,fun i=>?_⟩
  ·rw[Rb Y c,Sp rfl];exact⟨rfl,p⟩
  ·rw[Rb Y c]at b
   split at b
   ·next e=>exact .inr ⟨e,Bd⟩
   exact .inl b
  rw[Rb Y c]
  split
  ·next e=>rw[e]
  rfl
 exact⟨.stop h,fun h=>(by cases h),fun i b=>.inl b,fun _=>rfl⟩
def Hn (E:Df)(F:Nat->Option Be)(s:Bt):Prop:=s.hop=false/\∀q,(s.at q).st=true->∃z,F q=some z/\Ew E.T (s.at q).fr z
def Wj{E:Df}(g:E.Good){F:Nat->Option Be}(hF:∀p x,F p=some x->E.I x){Y:Bt}(h:E.Ok Y)(O:Y.sp.length=E.n)(c:Hn E F Y)(f:x.locals.length=E.lo/\(∀t∈x.locals,Dj E.T E.isN t)/\∀t∈x.stack,Dj E.T E.isN t){q:Int} (Q:0<=q)(V:q<(E.n:Int)){z:Be}(j:F q.toNat=some z)(b:Ew E.T x z):Hn E F (D9 E.T E.hi x q Y):=by
 have v:=hF _ _ j;have J:(x.stack.length:Int)<=E.hi:=by rw[b.st.len];exact v.hi
 have K:E.I x:=⟨f.1,J,f.2.1,f.2.2⟩;have L:q.toNat<Y.sp.length:=Bd;unfold D9;rw[Pf Bd];have A:∀y,Ew E.T y z->Hn E F (Y.put q.toNat y):=fun y N=>by
  refine⟨c.1,fun i l=>?_⟩;rw[Rb Y L]at l ⊢
  split at l
  ·next e=>subst e;rw[Sp rfl];exact⟨z,j,N⟩
  next e=>rw[Pf e];exact c.2 i l
 split
 ·exact A x b
 next h2 =>
 have B:(Y.at q.toNat).st=true:=by simpa using h2
 split
 ·exact c
 obtain⟨Z,C,m⟩:=c.2 _ B;rw[j]at C;cases C;have D:x.locals.length=(Y.at q.toNat).fr.locals.length:=b.lo.len.trans m.lo.len.symm;have G:x.stack.length=(Y.at q.toNat).fr.stack.length:=b.st.len.trans m.st.len.symm;rw[Sp ⟨D,G⟩];exact A _ ((Bjj g.T K.arg (Ov h B).arg D G).2.2 z v.arg b m)
def Tw (E:Df)(s:Bt)(q:Int)(y:Be)(a:Bool):Prop:=0<=q/\q<(E.n:Int)/\(y.stack.length:Int)<=E.hi/\(∃z,s.F q.toNat=some z/\Ew E.T y z)/\(a=true->(s.at q.toNat).wa=true)
def Tw.up{E:Df}(g:E.Good){Y b:Bt}(j:E.Ok Y)(h:My E Y b){y:Be}(l:Ey E.T y){a:Bool}(m:Tw E Y c y a):Tw E b c y a:=by
 obtain⟨p,t,v,⟨z,A,B⟩,C⟩:=m;obtain⟨f,rfl⟩:=Ol.1 A;obtain⟨i,D⟩:=h.st _ f;exact⟨p,t,v,⟨_,Ol.2 ⟨i,rfl⟩,B.trans g D l (Ov j f).arg (Ov h.ok i).arg⟩,fun e=>h.wa _ (C e)⟩
structure Bdn(E:Df)(s s':Bt)(q:Int)(y:Be)(a:Bool):Prop where
 up:My E s s'
 told:s'.hop=false->Tw E s' q y a
 st:∀i,(s'.at i).st=true->(s.at i).st=true\/(i=q.toNat/\q<(E.n:Int))
 wa:∀i,(s'.at i).wa=true->(s.at i).wa=true\/(i=q.toNat/\a=true)
def Uh{E:Df}(g:E.Good){Y:Bt}(h:E.Ok Y)(b:Y.sp.length=E.n)(c:x.locals.length=E.lo/\(∀t∈x.locals,Dj E.T E.isN t)/\∀t∈x.stack,Dj E.T E.isN t)(q:Int):Bdn E Y (D9 E.T E.hi x q Y) q x false:=by
 obtain⟨f,j,l,m⟩:=Bou g h b c q;refine⟨f,fun p=>?_,l,fun i v=>.inl (by rw[<- m];exact v)⟩;obtain⟨z,A,B,C,D⟩:=j p;exact⟨z,A,B,⟨_,Ol.2 ⟨C,rfl⟩,D⟩,fun e=>by cases e⟩
def W2{E:Df}(g:E.Good){Y:Bt}(h:E.Ok Y)(p:Y.sp.length=E.n)(j:x.locals.length=E.lo/\(∀t∈x.locals,Dj E.T E.isN t)/\∀t∈x.stack,Dj E.T E.isN t)(q:Int):Bdn E Y (Ie E.T E.hi x q Y) q x true:=by
 have c:=Uh g h p j q;unfold Ie Vt;have v:=c.up.len
 split
 ·next hc =>
  have f:q.toNat<(D9 E.T E.hi x q Y).sp.length:=Bd;have u:=My.want c.up.ok f;refine⟨c.up.trans g h u,fun l=>?_,fun i b=>?_,fun i b=>?_⟩
  ·have t:=(c.told l).up g c.up.ok u ⟨fun t m=>(j.2.1 t m).1,fun t m=>(j.2.2 t m).1⟩;exact⟨t.1,t.2.1,t.2.2.1,t.2.2.2.1,fun _=>by rw[Te _ f,Sp rfl]⟩
  ·rw[Te _ f]at b
   split at b
   ·next e=>subst e;exact c.st _ b
   exact c.st i b
  rw[Te _ f]at b
  split at b
  ·next e=>exact .inr ⟨e,rfl⟩
  rcases c.wa i b with h|⟨_,h⟩
  ·exact .inl h
  cases h
 next hc =>
 refine⟨c.up,fun l=>?_,c.st,fun i b=>?_⟩
 ·have t:=c.told l;exact absurd ⟨t.1,by rw[v,p];exact t.2.1⟩ hc
 rcases c.wa i b with h|⟨_,h⟩
 ·exact .inl h
 cases h
def Bch{E:Df}(g:E.Good){F:Nat->Option Be}(hF:∀p x,F p=some x->E.I x){Y:Bt}(h:E.Ok Y)(f:Y.sp.length=E.n)(j:Hn E F Y)(l:x.locals.length=E.lo/\(∀t∈x.locals,Dj E.T E.isN t)/\∀t∈x.stack,Dj E.T E.isN t) (m:0<=c)(v:c<(E.n:Int)){z:Be}(A:F c.toNat=some z)(B:Ew E.T x z):Hn E F (Ie E.T E.hi x c Y):=by
 have u:=Wj g hF h f j l m v A B;unfold Ie Vt
 split
 ·next hc =>
  have C:c.toNat<(D9 E.T E.hi x c Y).sp.length:=Bd;refine⟨u.1,fun i b=>?_⟩;rw[Te _ C]at b ⊢
  split at b
  ·next e=>subst e;rw[Sp rfl];exact u.2 _ b
  next e=>rw[Pf e];exact u.2 i b
 exact u
structure Lg(E:Df)(s s':Bt)(R:Int->Be->Bool->Prop):Prop where
 up:My E s s'
 told:s'.hop=false->∀q y a,R q y a->Tw E s' q y a
 st:∀i,(s'.at i).st=true->(s.at i).st=true\/∃q y a,R q y a/\i=q.toNat/\q<(E.n:Int)
 wa:∀i,(s'.at i).wa=true->(s.at i).wa=true\/∃q y,R q y true/\i=q.toNat
def Lg.nil{E:Df}{Y:Bt}(h:E.Ok Y){R:Int->Be->Bool->Prop}(b:∀q y a,¬R q y a):Lg E Y Y R:=⟨.refl h,fun _ q y a h=>absurd h (b q y a),fun _ h=>.inl h,fun _ h=>.inl h⟩
def Lg.one{E:Df}{Y p:Bt}{y:Be}{a:Bool}(h:Bdn E Y p c y a){R:Int->Be->Bool->Prop}(g:∀b e f,R b e f<->b=c/\e=y/\f=a):Lg E Y p R :=
 ⟨h.up,fun t b e f v=>by obtain⟨rfl,rfl,rfl⟩:=(g b e f).1 v;exact h.told t,fun i j=>(h.st i j).imp id fun ⟨l,m⟩=>⟨c,y,a,(g _ _ _).2 ⟨rfl,rfl,rfl⟩,l,m⟩,fun i j=>(h.wa i j).imp id fun ⟨l,m⟩=>⟨c,y,(g _ _ _).2 ⟨rfl,rfl,m.symm⟩,l⟩⟩
def Lg.trans{E:Df}(g:E.Good){Y t u:Bt}(m:E.Ok Y){A B R:Int->Be->Bool->Prop}(h:Lg E Y t A)(k:Lg E t u B)(p:∀q y a,A q y a->Ey E.T y)(f:∀q y a,R q y a<->A q y a\/B q y a):Lg E Y u R:=by
 refine⟨h.up.trans g m k.up,fun j q y a v=>?_,fun i l=>?_,fun i l=>?_⟩
 ·have z:t.hop=false:=by
   cases e:t.hop with
   | false=>rfl
   | true=>rw[k.up.hop e]at j;cases j
  rcases(f q y a).1 v with b|b
  ·exact(h.told z q y a b).up g h.up.ok k.up (p q y a b)
  exact k.told j q y a b
 ·rcases k.st i l with b|⟨q,y,a,b,c⟩
  ·exact(h.st i b).imp id fun ⟨q,y,a,b,c⟩=>⟨q,y,a,(f _ _ _).2 (.inl b),c⟩
  exact .inr ⟨q,y,a,(f _ _ _).2 (.inr b),c⟩
 rcases k.wa i l with b|⟨q,y,b,c⟩
 ·exact(h.wa i b).imp id fun ⟨q,y,b,c⟩=>⟨q,y,(f _ _ _).2 (.inl b),c⟩
 exact .inr ⟨q,y,(f _ _ _).2 (.inr b),c⟩
def Tl{E:Df}(g:E.Good)(f:E.I x)(p:Nat):∀(l:List Rd.Hnd),(∀h∈l,h∈E.hs)->∀{s:Bt},E.Ok s->s.sp.length=E.n ->
  Lg E s (Dy E.T E.hi (p:Int) x.locals l s) (fun q y a=>∃h∈l,El h (p:Int)=true/\q=h.target/\y=Gp x h/\a=true)
 | [],_,s,h0,_=>.nil h0 (by rintro q y a ⟨h,m,_⟩;simp at m)
 | h::r,hm,s,h0,hn=>by
  unfold Dy;have i:(Gp x h).locals.length=E.lo/\(∀t∈(Gp x h).locals,Dj E.T E.isN t)/\∀t∈(Gp x h).stack,Dj E.T E.isN t :=
   ⟨f.lo,f.tl,fun t c=>by rw[List.mem_singleton.1 c];exact⟨(g.hnd h (hm h Fr)).2.2.2,fun h=>by simp at h⟩⟩
  have j:Lg E s (if El h (p:Int)=true then Ie E.T E.hi ⟨x.locals,[(3,h.cl)]⟩ h.target s else s) (fun q y a=>El h (p:Int)=true/\q=h.target/\y=Gp x h/\a=true):=by
   split
   ·next hc=>exact .one (W2 g h0 hn i h.target) (fun q y a=>by simp[hc])
   next hc=>exact .nil h0 (by rintro q y a ⟨h,_⟩;exact hc h)
  refine j.trans g h0 (Tl g f p r (fun z v=>hm z (by simp[v])) j.up.ok (j.up.len.trans hn)) ?_ (fun q y a=>?_)
  ·rintro q y a ⟨_,_,rfl,_⟩;exact⟨fun t c=>(i.2.1 t c).1,fun t c=>(i.2.2 t c).1⟩
  constructor
  ·rintro ⟨k,e,b⟩;rcases List.mem_cons.1 e with rfl|e
   ·exact .inl b
   exact .inr ⟨k,e,b⟩
  rintro (b|⟨k,e,b⟩)
  ·exact⟨h,Fr,b⟩
  exact⟨k,by simp[e],b⟩
def Tk{E:Df}(g:E.Good){F:Nat->Option Be}(hF:∀p x,F p=some x->E.I x)(e:E.I x)(p:Nat):∀(l:List Rd.Hnd),(∀h∈l,h∈E.hs) ->
  (∀h∈l,El h (p:Int)=true->∃z,F h.target.toNat=some z/\Ew E.T (Gp x h) z)->∀{s:Bt},E.Ok s->s.sp.length=E.n->Hn E F s->Hn E F (Dy E.T E.hi (p:Int) x.locals l s)
 | [],_,_,s,_,_,hu=>hu
 | h::r,hm,b,s,h0,hn,hu=>by
  unfold Dy;have f:=g.hnd h (hm h Fr);have m:(Gp x h).locals.length=E.lo/\(∀t∈(Gp x h).locals,Dj E.T E.isN t)/\∀t∈(Gp x h).stack,Dj E.T E.isN t :=
   ⟨e.lo,e.tl,fun t q=>by rw[List.mem_singleton.1 q];exact⟨f.2.2.2,fun h=>by simp at h⟩⟩
  by_cases i:El h (p:Int)=true;·rw[Sp i];obtain⟨z,v,A⟩:=b h Fr i;have c:=W2 g h0 hn m h.target;exact Tk g hF e p r (fun z b=>hm z (by simp[b])) (fun z j=>b z (by simp[j])) c.up.ok (c.up.len.trans hn) (Bch g hF h0 hn hu m f.1 f.2.1 v A)
  rw[Pf i];exact Tk g hF e p r (fun z b=>hm z (by simp[b])) (fun z j=>b z (by simp[j])) h0 hn hu
structure Po(E:Df)(bh:Cd.Ins->Be->Option Be)(i:Cd.Ins)(p:Nat):Prop where
 mem:p∈E.ps
 pl:i.place=(p:Int)
 op:i.op=E.op p
 ar:Dx (E.op p)=true->i.n=E.ar p
 rl:∀x,E.I x->bh i x=E.rl p x
def Bkz{E:Df}(g:E.Good){F:Cd.Ins->Be->Option Be}{i:Cd.Ins}(l:Po E F i u)(B:E.I x){Y:Bt}(C:E.Ok Y)(G:Y.sp.length=E.n):Lg E Y (Mj E.T E.hi E.hs F i x Y) (Fc E u x)/\((Mj E.T E.hi E.hs F i x Y).hop=false->∃y,E.rl u x=some y):=by
 have m:=Tl g B u E.hs (fun h b=>b) C G;have O:∀q y a,(∃h∈E.hs,El h (u:Int)=true/\q=h.target/\y=Gp x h/\a=true)->Ey E.T y:=by
  rintro q y a ⟨h,b,j,rfl,rfl,rfl⟩;have:=Bad g l.mem B (.hnd h b j);exact⟨fun t J=>(this.2.1 t J).1,fun t J=>(this.2.2 t J).1⟩
 unfold Mj;rw[l.rl x B,l.pl,l.op];cases A:E.rl u x with
 | none =>
  refine⟨⟨m.up.trans g C (.stop m.up.ok),fun h=>(by cases h),fun i K=>?_,fun i K=>?_⟩,fun h=>(by cases h)⟩
  ·exact(m.st i K).imp id fun ⟨q,y,a,⟨h,b,j,L,N,Q⟩,e⟩=>⟨q,y,a,by subst L N Q;exact .hnd h b j,e⟩
  exact(m.wa i K).imp id fun ⟨q,y,⟨h,b,j,L,N,Q⟩,e⟩=>⟨q,y,by subst L N;exact .hnd h b j,e⟩
 | some y =>
  have D:=g.rl u l.mem x y B A;have V:y.locals.length=E.lo/\(∀t∈y.locals,Dj E.T E.isN t)/\∀t∈y.stack,Dj E.T E.isN t:=⟨D.lo,D.tl,D.ts⟩;have e:Lg E Y (if Dx (E.op u)=true then Ie E.T E.hi y i.n (Dy E.T E.hi (u:Int) x.locals E.hs Y) else Dy E.T E.hi (u:Int) x.locals E.hs Y)
    (fun q z a=>(∃h∈E.hs,El h (u:Int)=true/\q=h.target/\z=Gp x h/\a=true)\/(Dx (E.op u)=true/\q=E.ar u/\z=y/\a=true)):=by
   split
   ·next v =>
    have c:=W2 g m.up.ok (m.up.len.trans G) V i.n;rw[l.ar v]at c ⊢;exact m.trans g C (.one c (R:=fun q z a=>q=E.ar u/\z=y/\a=true) (fun _ _ _=>Iff.rfl)) O (fun q z a=>by simp[v])
   next v =>
   refine⟨m.up,fun h q z a b=>?_,fun i l=>(m.st i l).imp id fun ⟨q,z,a,f,e⟩=>⟨q,z,a,.inl f,e⟩,fun i l=>(m.wa i l).imp id fun ⟨q,z,f,e⟩=>⟨q,z,.inl f,e⟩⟩;rcases b with b|⟨b,_⟩
   ·exact m.told h q z a b
   exact absurd b v
  have Z:∀q z a,((∃h∈E.hs,El h (u:Int)=true/\q=h.target/\z=Gp x h/\a=true)\/(Dx (E.op u)=true/\q=E.ar u/\z=y/\a=true))->Ey E.T z:=by
   rintro q z a (b|⟨_,_,rfl,_⟩)
   ·exact O q z a b
   exact D.arg
  refine⟨?_,fun _=>⟨y,rfl⟩⟩;simp only
  split
  ·next hg =>
   have c:=Uh g e.up.ok (e.up.len.trans G) V ((u:Int)+(Cd.wd (E.op u):Int));refine e.trans g C (.one c (R:=fun q z a=>q=(u:Int)+(Cd.wd (E.op u):Int)/\z=y/\a=false) (fun _ _ _=>Iff.rfl)) Z (fun q z a=>?_)
   constructor
   ·intro h;cases h using Fc.el with
    | hnd h b j=>exact .inl (.inl ⟨h,b,j,rfl,rfl,rfl⟩)
    | jmp z f e=>rw[A]at f;cases f;exact .inl (.inr ⟨e,rfl,rfl,rfl⟩)
    | nxt z f e=>rw[A]at f;cases f;exact .inr ⟨rfl,rfl,rfl⟩
   rintro ((⟨h,b,j,rfl,rfl,rfl⟩|⟨v,rfl,rfl,rfl⟩)|⟨rfl,rfl,rfl⟩)
   ·exact .hnd h b j
   ·exact .jmp _ A v
   exact .nxt _ A hg
  next hg =>
  refine⟨e.up,fun h q z a b=>e.told h q z a ?_,fun i l=>(e.st i l).imp id fun ⟨q,z,a,f,e⟩=>⟨q,z,a,?_,e⟩,fun i l=>(e.wa i l).imp id fun ⟨q,z,f,e⟩=>⟨q,z,?_,e⟩⟩
  ·cases b using Fc.el with
   | hnd h b j=>exact .inl ⟨h,b,j,rfl,rfl,rfl⟩
   | jmp z f e=>rw[A]at f;cases f;exact .inr ⟨e,rfl,rfl,rfl⟩
   | nxt z f e=>exact absurd e hg
  ·rcases f with ⟨h,b,j,rfl,rfl,rfl⟩|⟨v,rfl,rfl,rfl⟩
   ·exact .hnd h b j
   exact .jmp _ A v
  rcases f with ⟨h,b,j,rfl,rfl,_⟩|⟨v,rfl,rfl,_⟩
  ·exact .hnd h b j
  exact .jmp _ A v
def Bky{E:Df}(g:E.Good){F:Nat->Option Be}(hF:Tc E F){bh:Cd.Ins->Be->Option Be}{i:Cd.Ins}(e:Po E bh i u){z:Be}(f:E.I x)(hz:F u=some z)(hl:Ew E.T x z){Y:Bt}(h0:E.Ok Y)(m:Y.sp.length=E.n)(hu:Hn E F Y):Hn E F (Mj E.T E.hi E.hs bh i x Y):=by
 have K:=hF.sat u e.mem z hz;have L:=hF.inv u z hz;have N:∀{q b a},Fc E u x q b a->0<=q/\q<(E.n:Int)/\∃v,F q.toNat=some v/\Ew E.T b v:=by
  intro q b a D;obtain⟨u',A,B⟩:=Bn5 g e.mem f L hl D K.rl;obtain⟨a1,a2,_,⟨v,a3,a4⟩,_⟩:=K.go q u' a A;have ou:=Bad g e.mem f D;have a0:=Bad g e.mem L A;exact⟨a1,a2,v,a3,B.trans g a4 ⟨fun t j=>(ou.2.1 t j).1,fun t j=>(ou.2.2 t j).1⟩ ⟨fun t j=>(a0.2.1 t j).1,fun t j=>(a0.2.2 t j).1⟩ (hF.inv _ _ a3).arg⟩
 have l:=Tl g f u E.hs (fun h C=>C) h0 m;have uH:=Tk g hF.inv f u E.hs (fun h C=>C) (fun h C hc=>(N (.hnd h C hc)).2.2) h0 m hu;obtain⟨zr,a5⟩:=K.rl;obtain⟨y,G,_⟩:=g.mono u e.mem x z zr f L hl a5;have O:=g.rl u e.mem x y f G;have Q:y.locals.length=E.lo/\(∀t∈y.locals,Dj E.T E.isN t)/\∀t∈y.stack,Dj E.T E.isN t:=⟨O.lo,O.tl,O.ts⟩;unfold Mj;rw[e.rl x f,e.pl,e.op,G];simp only;have J:E.Ok (if Dx (E.op u)=true then Ie E.T E.hi y i.n (Dy E.T E.hi (u:Int) x.locals E.hs Y) else Dy E.T E.hi (u:Int) x.locals E.hs Y) /\
   (if Dx (E.op u)=true then Ie E.T E.hi y i.n (Dy E.T E.hi (u:Int) x.locals E.hs Y) else Dy E.T E.hi (u:Int) x.locals E.hs Y).sp.length=E.n /\
   Hn E F (if Dx (E.op u)=true then Ie E.T E.hi y i.n (Dy E.T E.hi (u:Int) x.locals E.hs Y) else Dy E.T E.hi (u:Int) x.locals E.hs Y):=by
  split
  ·next hj =>
   have c:=W2 g l.up.ok (l.up.len.trans m) Q i.n;obtain⟨A,B,v,V,Z⟩:=N (.jmp y G hj);rw[e.ar hj]at c ⊢;exact⟨c.up.ok,c.up.len.trans (l.up.len.trans m),Bch g hF.inv l.up.ok (l.up.len.trans m) uH Q A B V Z⟩
  exact⟨l.up.ok,l.up.len.trans m,uH⟩
 split
 ·next D =>
  obtain⟨A,B,v,V,Z⟩:=N (.nxt y G D);exact Wj g hF.inv J.1 J.2.1 J.2.2 Q A B V Z
 exact J.2.2
structure Zf(E:Df)(s:Bt):Prop where
 ok:E.Ok s
 len:s.sp.length=E.n
 sat:s.hop=false->∀p∈E.ps,(s.at p).st=true->(s.at p).ri=false->(∃y,E.rl p (s.at p).fr=some y)/\∀q y a,Fc E p (s.at p).fr q y a->Tw E s q y a
 pl:∀q,(s.at q).st=true->q∈E.ps
 why:∀q,(s.at q).wa=true->∃p∈E.ps,(s.at p).st=true/\Bc2 E p q
 x0:s.hop=false->∃y,s.F 0=some y/\Ew E.T E.x0 y
abbrev Gx(E:Df)(bh:Cd.Ins->Be->Option Be)(i:Cd.Ins)(x:Be)(s:Bt):Bt:=Mj E.T E.hi E.hs bh i x s
def Buk{E:Df}(g:E.Good){z:Cd.Ins->Be->Option Be}{i:Cd.Ins}(A:Po E z i u){Y:Bt}(h:Zf E Y)(I:(Y.at u).ri=true):Zf E (Gx E z i (Y.at u).fr (Y.calm u)):=by
 have l:u<Y.sp.length:=by rw[h.len];exact g.lt u A.mem
 have J:(Y.at u).st=true:=(h.ok _ (Jf l)).2 I;have hx:=Ov h.ok J;obtain⟨L,c2,_⟩:=Vh (K:=0) h.ok l I;have N:(Y.calm u).sp.length=E.n:=c2.trans h.len;obtain⟨c,O⟩:=Bkz g A hx L N;generalize Q:Gx E z i (Y.at u).fr (Y.calm u)=V at *;change Mj E.T E.hi E.hs z i (Y.at u).fr (Y.calm u)=V at Q;rw[Q]at c O;have m:∀j,((Y.calm u).at j).st=(Y.at j).st:=fun j=>by rw[Vn Y l];split<;>rename_i e<;>simp[e]
 have B:∀j,((Y.calm u).at j).fr=(Y.at j).fr:=fun j=>by rw[Vn Y l];split<;>rename_i e<;>simp[e]
 have Z:∀j,((Y.calm u).at j).wa=(Y.at j).wa:=fun j=>by rw[Vn Y l];split<;>rename_i e<;>simp[e]
 have cF:∀j,(Y.calm u).F j=Y.F j:=fun j=>by unfold Bt.F;rw[m,B]
 have a3:(V.at u).st=true:=(c.up.st u (by rw[m];exact J)).1;refine⟨c.up.ok,c.up.len.trans N,fun f r a0 a4 a5=>?_,fun q C=>?_,fun q C=>?_,fun f=>?_⟩
 ·obtain⟨u1,u2,u3⟩:=c.up.ri r a5;rw[u2,B];by_cases e:r=u;·subst e;exact⟨O f,fun q y a b=>c.told f q y a b⟩
  have D:(Y.calm u).hop=false:=by
   cases e:(Y.calm u).hop with
   | false=>rfl
   | true=>rw[c.up.hop e]at f;cases f
  have rr:(Y.at r).ri=false:=by rw[Vn Y l,Pf e]at u1;exact u1
  have rs:(Y.at r).st=true:=by rw[<- m,<- u3];exact a4
  obtain⟨a1,a2⟩:=h.sat D r a0 rs rr;refine⟨a1,fun q y a b=>?_⟩;have og:=Bad g a0 (Ov h.ok rs) b;have t:=a2 q y a b;have t':Tw E (Y.calm u) q y a:=⟨t.1,t.2.1,t.2.2.1,by rw[cF];exact t.2.2.2.1,by rw[Z];exact t.2.2.2.2⟩;exact t'.up g L c.up ⟨fun t G=>(og.2.1 t G).1,fun t G=>(og.2.2 t G).1⟩
 ·rcases c.st q C with v|⟨q',y,a,b,rfl,a6⟩
  ·rw[m]at v;exact h.pl q v
  exact Bs0 g A.mem b a6
 ·rcases c.wa q C with v|⟨q',y,b,rfl⟩
  ·rw[Z]at v;obtain⟨r,a7,a8,a9⟩:=h.why q v;exact⟨r,a7,(c.up.st r (by rw[m];exact a8)).1,a9⟩
  exact⟨u,A.mem,a3,Bqw b⟩
 have D:(Y.calm u).hop=false:=by
  cases e:(Y.calm u).hop with
  | false=>rfl
  | true=>rw[c.up.hop e]at f;cases f
 obtain⟨y,hy,hl⟩:=h.x0 D;obtain⟨e1,rfl⟩:=Ol.1 hy;obtain⟨k1,k2⟩:=c.up.st 0 (by rw[m];exact e1);rw[B]at k2;exact⟨_,Ol.2 ⟨k1,rfl⟩,hl.trans g k2 g.x0.arg (Ov h.ok e1).arg (Ov c.up.ok k1).arg⟩
def Buj{E:Df}(g:E.Good){F:Nat->Option Be}(hF:Tc E F){f:Cd.Ins->Be->Option Be}{i:Cd.Ins}(l:Po E f i u){Y:Bt}(h:Zf E Y)(m:(Y.at u).ri=true)(c:Hn E F Y):Hn E F (Gx E f i (Y.at u).fr (Y.calm u)):=by
 have b:u<Y.sp.length:=by rw[h.len];exact g.lt u l.mem
 have q:(Y.at u).st=true:=(h.ok _ (Jf b)).2 m;obtain⟨v,A,_⟩:=Vh (K:=0) h.ok b m;obtain⟨z,B,C⟩:=c.2 u q;refine Bky g hF l (Ov h.ok q) B C v (A.trans h.len) ⟨c.1,fun j t=>?_⟩;have D:((Y.calm u).at j).st=(Y.at j).st:=by rw[Vn Y b];split<;>rename_i e<;>simp[e]
 have G:((Y.calm u).at j).fr=(Y.at j).fr:=by rw[Vn Y b];split<;>rename_i e<;>simp[e]
 rw[D]at t;rw[G];exact c.2 j t
def Bm3{E:Df}(g:E.Good){bh:Cd.Ins->Be->Option Be}:∀(L:List Cd.Ins),(∀i∈L,∃p,Po E bh i p)->∀(b:Bool) {s:Bt},Zf E s ->
  Zf E (Ct (Gx E bh) L b s).1/\(∀F,Tc E F->Hn E F s->Hn E F (Ct (Gx E bh) L b s).1) /\
  ((Ct (Gx E bh) L b s).2=false->b=false/\(Ct (Gx E bh) L b s).1=s/\∀i∈L,(s.at i.place.toNat).ri=false)
 | [],_,b,s,h=>⟨h,fun _ _ m=>m,fun f=>⟨f,rfl,fun i D=>by simp at D⟩⟩
 | i::r,hL,b,s,h=>by
  obtain⟨p,j⟩:=hL i Fr;have A:=fun b {s:Bt} h=>Bm3 g (bh:=bh) r (fun z l=>hL z (by simp[l])) b (s:=s) h;have K:p<s.sp.length:=by rw[h.len];exact g.lt p j.mem
  have B:i.place.toNat=p:=by rw[j.pl];simp
  unfold Ct
  split
  ·next c =>
   obtain⟨q,t,v⟩:=A b h;refine⟨q,t,fun f=>?_⟩;obtain⟨G,I,J⟩:=v f;refine⟨G,I,fun z l=>?_⟩;rcases List.mem_cons.1 l with rfl|l
   ·rcases c with c|c
    ·rw[j.pl]at c;omega
    exact c
   exact J z l
  next c =>
  have C:(s.at p).ri=true:=by
   cases e:(s.at p).ri with
   | true=>rfl
   | false=>exact absurd (.inr (by rw[B];exact e)) c
  rw[B];obtain⟨q,t,v⟩:=A true (Buk g j h C);refine⟨q,fun F hF m=>t F hF (Buj g hF j h C m),fun f=>?_⟩;exact absurd (v f).1 Fr
def Bf6{E:Df}(g:E.Good){bh:Cd.Ins->Be->Option Be}{L:List Cd.Ins}(f:∀i∈L,∃p,Po E bh i p)(j:∀i∈L,0<=i.place){K:Nat}(l:∀i∈L,∀x s,E.I x->E.Ok s->Io E.T E.lo E.hi E.isN K s (Gx E bh i x s)) :
  ∀(m:Nat) {s:Bt},Zf E s->Mx E.T K s<m->Zf E (Ku (Gx E bh) L m s)/\(∀F,Tc E F->Hn E F s->Hn E F (Ku (Gx E bh) L m s)) /\
   ((Ku (Gx E bh) L m s).hop=false->∀i∈L,((Ku (Gx E bh) L m s).at i.place.toNat).ri=false)
 | 0,s,_,h=>absurd h Bd
 | m+1,s,h,hm=>by
  obtain⟨q,t,v⟩:=Bm3 g (bh:=bh) L f false h;have z:=Xu (K:=K) L j l false h.ok;unfold Ku
  split
  ·next hc =>
   have:=z.2 hc.1 rfl;obtain⟨A,b,c⟩:=Bf6 g f j l m q Bd;exact⟨A,fun F hF B=>b F hF (t F hF B),c⟩
  next hc =>
  refine⟨q,t,fun C=>?_⟩;have:(Ct (Gx E bh) L false s).2=false:=by
   cases e:(Ct (Gx E bh) L false s).2 with
   | false=>rfl
   | true=>exact absurd ⟨e,C⟩ hc
  obtain⟨_,b,c⟩:=v this;rw[b];exact c
def Nm (E:Df):Bt:=⟨List.replicate E.n Jz,false⟩
def Bac(E:Df)(q:Nat):(Nm E).at q=Jz:=by
 unfold Nm Bt.at;rw[Th,By4]
 split<;>rfl
def Fq (E:Df)(bh:Cd.Ins->Be->Option Be)(L:List Cd.Ins):Bt:=Ye E.T (Rv E.T E.lo E.hi) (Gx E bh) L (D9 E.T E.hi E.x0 0 (Nm E))
def Bdb{E:Df}(g:E.Good){c:Cd.Ins->Be->Option Be}{L:List Cd.Ins}(j:∀i∈L,∃p,Po E c i p):∀i∈L,∀x s,E.I x->E.Ok s->Io E.T E.lo E.hi E.isN (Rv E.T E.lo E.hi) s (Gx E c i x s):=fun i l x s b m=>by
 obtain⟨p,e⟩:=j i l;exact Bsq g.T b (fun h q=>(g.hnd h q).2.2.2) (fun y f=>by rw[e.rl x b]at f;exact g.rl p e.mem x y b f) m
def Bjl(E:Df):E.Ok (Nm E):=fun p b=>by
 have:=List.eq_of_mem_replicate b;subst this;exact⟨fun h=>(by cases h),fun h=>(by cases h)⟩
def Bck{E:Df}(g:E.Good){b:Cd.Ins->Be->Option Be}{L:List Cd.Ins}(D:∀i∈L,∃p,Po E b i p)(Q:∀p∈E.ps,∃i∈L,i.place=(p:Int)):E.Ok (Fq E b L)/\(Fq E b L).sp.length=E.n/\((Fq E b L).hop=false->Tc E (Fq E b L).F/\(∀q,(Fq E b L).F q≠none->q∈E.ps)/\(∀q,((Fq E b L).at q).wa=true<->∃p∈E.ps,(Fq E b L).F p≠none/\Bc2 E p q))/\(∀F,Tc E F->(Fq E b L).hop=false/\∀p x,(Fq E b L).F p=some x->∃y,F p=some y/\Ew E.T x y):=by
 have hz:0<E.n:=g.lt 0 g.zero;have V:=Bjl E;have G:(Nm E).sp.length=E.n:=by simp[Nm]
 have Y:E.x0.locals.length=E.lo/\(∀t∈E.x0.locals,Dj E.T E.isN t)/\∀t∈E.x0.stack,Dj E.T E.isN t:=⟨g.x0.lo,g.x0.tl,g.x0.ts⟩;have c:=Uh g V G Y 0;have J0:Zf E (D9 E.T E.hi E.x0 0 (Nm E)):=by
  refine⟨c.up.ok,c.up.len.trans G,fun l p v hs m=>?_,fun q f=>?_,fun q f=>?_,fun l=>?_⟩
  ·obtain⟨_,_,e⟩:=c.up.ri p m;rw[hs,Bac]at e;cases e
  ·rcases c.st q f with h|⟨rfl,_⟩
   ·rw[Bac]at h;cases h
   exact g.zero
  ·rcases c.wa q f with h|⟨_,h⟩
   ·rw[Bac]at h;cases h
   cases h
  exact(c.told l).2.2.2.1
 have a0:∀i∈L,0<=i.place:=fun i z=>by obtain⟨p,v⟩:=D i z;rw[v.pl];omega
 obtain⟨j,Z,I⟩:=Bf6 g D a0 (Bdb g D) (Mx E.T (Rv E.T E.lo E.hi) (D9 E.T E.hi E.x0 0 (Nm E))+1) J0 Bd;change Zf E (Fq E b L) at j;change ∀F,Tc E F->_->Hn E F (Fq E b L) at Z;change (Fq E b L).hop=false->∀i∈L,((Fq E b L).at i.place.toNat).ri=false at I;refine⟨j.ok,j.len,fun l=>⟨⟨fun p x A=>?_,j.x0 l,fun p v x A=>?_⟩,fun q f=>?_,fun q=>⟨fun f=>?_,?_⟩⟩,fun F hF=>?_⟩
 ·obtain⟨s,rfl⟩:=Ol.1 A;exact Ov j.ok s
 ·obtain⟨s,rfl⟩:=Ol.1 A;obtain⟨i,z,J⟩:=Q p v;have m:=I l i z;rw[J]at m;obtain⟨s1,B⟩:=j.sat l p v s (by simpa using m);exact⟨s1,fun q y a hg=>by obtain⟨t1,t2,t3,t4,_⟩:=B q y a hg;exact⟨t1,t2,t3,t4,fun _=>trivial⟩⟩
 ·cases e:(Fq E b L).F q with
  | none=>exact absurd e f
  | some x=>exact j.pl q (Ol.1 e).1
 ·obtain⟨p,C,K,N⟩:=j.why q f;exact⟨p,C,by rw[Ol.2 ⟨K,rfl⟩];simp,N⟩
 ·rintro ⟨p,C,K,N⟩;have s:((Fq E b L).at p).st=true:=by
   cases e:(Fq E b L).F p with
   | none=>exact absurd e K
   | some x=>exact(Ol.1 e).1
  obtain⟨i,z,J⟩:=Q p C;have m:=I l i z;rw[J]at m;obtain⟨⟨y,O⟩,B⟩:=j.sat l p C s (by simpa using m);rcases N with ⟨h,hm,hc,rfl⟩|⟨hj,rfl⟩
  ·exact(B _ _ _ (.hnd h hm hc)).2.2.2.2 rfl
  exact(B _ _ _ (.jmp y O hj)).2.2.2.2 rfl
 obtain⟨y,O,hl⟩:=hF.x0;have u0:Hn E F (Nm E):=⟨rfl,fun q f=>by rw[Bac]at f;cases f⟩;have u1:=Wj g hF.inv V G u0 Y (q:=0) Bd Bd O hl;have u2:=Z F hF u1;exact⟨u2.1,fun p x A=>by obtain⟨s,rfl⟩:=Ol.1 A;exact u2.2 p s⟩
def Ep (cs:List Rd.Cls)(ms:List Rd.Mth)(m:Rd.Mth):Df :=
 ⟨Tr.tree cs,m.locals.toNat,m.stack,Yj m.code,m.code.length,Cd.places m.code,m.handlers,Fn cs ms m,fun p=>m.code.getD p 0,fun p=>Cd.atI m.code ((p:Int)+1),Fk m⟩
def Ban(c:TI):∀(k e:Nat),c.length<=e+k->∀q∈Cd.starts c k e,q+Cd.wd (c.getD q 0)<c.length->q+Cd.wd (c.getD q 0)∈Cd.starts c k e
 | 0,e,_,q,b,_=>by simp[Cd.starts]at b
 | k+1,e,hk,q,b,hl=>by
  unfold Cd.starts at b ⊢;by_cases f:e<c.length
  ·rw[Sp f]at b ⊢;have g:=Cd.wd_bd (c.getD e 0);rcases List.mem_cons.1 b with rfl|b
   ·refine Bv6 _ ?_;obtain⟨j,rfl⟩:∃j,k=j+1:=⟨k-1,Bd⟩;unfold Cd.starts;rw[Sp hl];exact Bv1 ..
   exact Bv6 _ (Ban c k _ Bd q b hl)
  rw[Pf f]at b;simp at b
def Bap(b:u∈Cd.places z)(e:u+Cd.wd (z.getD u 0)<z.length):u+Cd.wd (z.getD u 0)∈Cd.places z:=Ban z z.length 0 Bd u b e
def Ur(b:u∈Cd.places z):u<z.length:=by
 have e:Cd.begB z (u:Int)=true:=by unfold Cd.begB;rw[By6];exact⟨u,b,Fr⟩
 have:=Pu e;omega
def Xh(h:0<z.length):0∈Cd.places z:=by
 unfold Cd.places;obtain⟨j,b⟩:∃j,z.length=j+1:=⟨z.length-1,Bd⟩;rw[b];unfold Cd.starts;rw[Sp h];exact Bv1 ..
def Bmq{t:List Rd.Cls}{m:List Rd.Mth}(k:Jj t m){F:Rd.Mth}(j:F∈m)(q:u∈Cd.places F.code){y z:Be}(s:J1 (Tr.tree t) F x)(v:J1 (Tr.tree t) F y)(h:Ew (Tr.tree t) x y)(e:Fn t m F u y=some z):∃b,Fn t m F u x=some b/\Ew (Tr.tree t) b z:=by
 have g:=k.mt F j;have A:=X2 g q;unfold Fn at e ⊢;rw[Bc8]at e ⊢;unfold Gt at e ⊢;obtain⟨B,C,f⟩:=Option.bind_eq_some_iff.1 e;obtain⟨b,D,l⟩:=Bkr (want:=Rf.all (Tr.tree t) (Rf.given++t) (Cd.atI F.code ((u:Int)+1)).toNat) k.ok (Nb s) (Nb v) (Bdv k j A) (fun c G=>(Ht (W9 k.fl _ _ c G)).1) h C;by_cases i:(B.stack.length:Int)<=F.stack
 ·rw[Sp i]at f;cases f;refine⟨b,?_,l⟩;rw[D];show (if (b.stack.length:Int)<=F.stack then some b else none)=some b
  rw[Sp (by rw[l.st.len];exact i)]
 rw[Pf i]at f;cases f
def Bg6{c:TI}{h:Rd.Hnd}(b:Cd.hndBad z c h=false):Cd.begB c h.target=true/\Tr.hasB z h.cl=true:=by
 unfold Cd.hndBad at b;simp only[Bxo,Bool.not_eq_eq_eq_not,Bool.not_false]at b;exact⟨b.1.1.1.2,b.1.2⟩
def Wd{t:List Rd.Cls}{m:List Rd.Mth}(k:Jj t m){F:Rd.Mth}(e:F∈m)(q:0<F.code.length):(Ep t m F).Good:=by
 have g:=k.mt F e;refine⟨k.ok,Vj g,fun p b x y f h=>Un k e b f h,fun p b x y z f s h v=>Bmq k e b f s h v,fun p b A=>?_,fun p b B=>?_,fun h C=>?_,Xh q,fun p b=>Ur b⟩
 ·have c:=g.arg p b;unfold Cd.argAt at c;rw[Baa]at c;show 0<=Cd.atI F.code ((p:Int)+1)/\Cd.atI F.code ((p:Int)+1)<(F.code.length:Int)/\(Cd.atI F.code ((p:Int)+1)).toNat∈Cd.places F.code;have l:Dx (F.code.getD p 0)=true:=A;generalize F.code.getD p 0=op at *;unfold Dx at l;have G:op=11\/op=12\/op=13\/op=14:=by simpa using l
  unfold Cd.argB at c;rw[Pf Bd,Sp Bd]at c;have i:=Pu c;have j:=Bbp c;exact⟨Bd,Bd,j⟩
 ·have I:(p:Int)+(Cd.wd (F.code.getD p 0):Int)<(F.code.length:Int):=B;have:=Bap b Bd;show ((p:Int)+(Cd.wd (F.code.getD p 0):Int)).toNat∈Cd.places F.code;rw[show ((p:Int)+(Cd.wd (F.code.getD p 0):Int)).toNat=p+Cd.wd (F.code.getD p 0) by omega];exact this
 obtain⟨i,j⟩:=Bg6 (g.hnd h C);have J:=Pu i;have D:=Bbp i;exact⟨Bd,(by show h.target<(F.code.length:Int);omega),D,Xr (Lr.1 j)⟩
def Bs3{t:List Rd.Cls}{m:List Rd.Mth}(k:Jj t m){F:Rd.Mth}(c:F∈m)(b:u∈Cd.places F.code):Po (Ep t m F) (Dt t m F) (Cd.insAt F.code u) u:=by
 have g:=k.mt F c;obtain⟨l,f⟩:=N2 g.unread u b;refine⟨b,rfl,rfl,fun h=>?_,fun x i=>Ug k c b i⟩;have e:Dx (F.code.getD u 0)=true:=h;have j:Cd.wd (F.code.getD u 0)=2:=by
  generalize F.code.getD u 0=op at *;unfold Dx at e;have q:op=11\/op=12\/op=13\/op=14:=by simpa using e
  unfold Cd.wd;rw[Sp Bd]
 exact(W3 f j).1
def Bb1{m:List Rd.Mth}{F:Rd.Mth}(g:Ra z c m F):Cd.readL F.code=(Cd.places F.code).map (Cd.insAt F.code):=by
 have:=g.unread;unfold Cd.readL;rw[Pf Bd];rfl
def Y0{t:List Rd.Cls}{m:List Rd.Mth}(k:Jj t m){F:Rd.Mth}(c:F∈m):(∀i∈Cd.readL F.code,∃p,Po (Ep t m F) (Dt t m F) i p)/\∀p∈(Ep t m F).ps,∃i∈Cd.readL F.code,i.place=(p:Int):=by
 rw[Bb1 (k.mt F c)]
 constructor
 ·intro i e;obtain⟨p,b,rfl⟩:=List.mem_map.1 e;exact⟨p,Bs3 k c b⟩
 intro p b;exact⟨Cd.insAt F.code p,List.mem_map.2 ⟨p,b,rfl⟩,rfl⟩
def Ja (cs:List Rd.Cls)(ms:List Rd.Mth)(m:Rd.Mth):Bt:=Fq (Ep cs ms m) (Dt cs ms m) (Cd.readL m.code)
def Gw (cs:List Rd.Cls)(ms:List Rd.Mth)(m:Rd.Mth):Option (List Rd.Mp):=if (Ja cs ms m).hop=true then none else some (Fp 0 (Ja cs ms m).sp)
def Rd.Mon{α:Type}(f:Rd.St->α × Rd.St):Prop:=∀t,t.bad=true->(f t).2.bad=true
def Of(s:TB):Rd.Mon (Rd.nx s):=fun t h=>by unfold Rd.nx;rw[Sp h]
def V4(s:TB)(a b:Int):Rd.Mon (Rd.cn s a b):=fun t h=>by
 unfold Rd.cn
 split
 ·rfl
 split
 ·rfl
 exact Of s t h
def Bnc(s:TB):Rd.Mon (Rd.ty s):=fun t h=>Of s _ (Of s t h)
def Tj{α:Type}{f:Rd.St->α×Rd.St}(b:Rd.Mon f):∀(n:Nat) (t:Rd.St),t.bad=true->(Rd.rep f n t).2.bad=true
 | 0,_,h=>h
 | n+1,t,h=>b _ (Tj b n t h)
def Bc9(s:TB)(n:Nat):Rd.Mon (Rd.tys s n):=fun t h=>Tj (Bnc s) n t h
def Bsj(s:TB):Rd.Mon (Rd.hnd s):=fun t h=>Of s _ (Of s _ (Of s _ (Of s t h)))
def Bgs(s:TB):Rd.Mon (Rd.hnds s):=fun t h=>Tj (Bsj s) _ _ (V4 s 0 4 t h)
def Buf(s:TB)(L H:Int):Rd.Mon (Rd.mp s L H):=fun t h=>Bc9 s _ _ (V4 s 0 H _ (Bc9 s _ _ (Of s t h)))
def Bnd(s:TB):Rd.Mon (Rd.codes s):=fun t h=>Tj (Of s) _ _ (V4 s 1 120 t h)
def Bok(s:TB)(t:Rd.St)(h:(Rd.codes s t).2.bad=false):0<(Rd.codes s t).1.length:=by
 unfold Rd.codes at h ⊢;simp only at h ⊢;rw[Rd.rep_len];by_cases b:(Rd.cn s 1 120 t).2.bad=true;·rw[Tj (Of s) _ _ b]at h;cases h
 unfold Rd.cn at b ⊢
 split at b
 ·exact absurd rfl b
 split at b
 ·exact absurd rfl b
 next h1 h2=>rw[Pf h1,Pf h2];omega
def Bjg(s:TB)(L H:Int):Rd.Mon (Rd.mps s L H):=fun t h=>Tj (Buf s L H) _ _ (V4 s 0 64 t h)
def Bda(s:TB):Rd.Mon (Rd.mth s):=fun t h=>by
 unfold Rd.mth;exact Bjg s _ _ _ (Bgs s _ (Bnd s _ (V4 s 0 8 _ (V4 s 0 8 _ (Bnc s _ (Bc9 s _ _ (V4 s 0 4 _ (Of s _ (Of s t h)))))))))
def Bgq(s:TB)(t:Rd.St)(h:(Rd.mth s t).2.bad=false):0<(Rd.mth s t).1.code.length:=by
 unfold Rd.mth at h ⊢;simp only at h ⊢;refine Bok s _ ?_;generalize Rd.codes s _=c at h ⊢;cases b:c.2.bad with
 | false=>rfl
 | true=>rw[Bjg s _ _ _ (Bgs s _ b)]at h;cases h
def Bf8(s:TB):∀(n:Nat) (t:Rd.St),(Rd.rep (Rd.mth s) n t).2.bad=false->∀m∈(Rd.rep (Rd.mth s) n t).1,0<m.code.length
 | 0,_,_,m,b=>by simp[Rd.rep]at b
 | n+1,t,h,m,b=>by
  unfold Rd.rep at h b;simp only at h b;rcases List.mem_append.1 b with b|b
  ·refine Bf8 s n t ?_ m b;cases c:(Rd.rep (Rd.mth s) n t).2.bad with
   | false=>rfl
   | true=>rw[Bda s _ c]at h;cases h
  rw[List.mem_singleton.1 b];exact Bgq s _ h
def Zy(s:TB)(h:(Rd.read s).2=0):∀m∈(Rd.read s).1.methods,0<m.code.length:=by
 unfold Rd.read at h ⊢
 split
 ·simp
 next h1 =>
 rw[Pf h1]at h
 split
 ·simp
 next h2 =>
 rw[Pf h2]at h;simp only[Rd.fil]at h2 ⊢;refine Bf8 s _ _ ?_;generalize (Rd.rep (Rd.mth s) _ _).2=t at *;cases b:t.bad with
 | false=>rfl
 | true=>exact absurd (.inl b) h2
variable {ya:Option Addr}{yn yc:Nat}
def Bo5{α β γ:Type}(f:α->β->γ)(a:List α)(b:List β)(k:Nat)(c:k<a.length)(e:k<b.length):List.zipWith f (a.take (k+1)) (b.take (k+1))=List.zipWith f (a.take k) (b.take k)++[f a[k] b[k]]:=by
 rw[Bvs c,Bvs e,List.zipWith_append Fm];rfl
def Iq{b:TW}{s o:Nat}{u0 u1 u2 u3 u4 u5:TX}(e:u<w.heap.size)(f:s<w.heap.size)(g:j<w.heap.size) (h:w.C u 0 u0/\w.C u 1 u1/\w.C s 0 u2/\w.C s 1 u3/\w.C j o u4/\w.C j (o+1) u5)(c:Bl w b):b.C u 0 u0/\b.C u 1 u1/\b.C s 0 u2/\b.C s 1 u3/\b.C j o u4/\b.C j (o+1) u5 :=
 ⟨QC c e h.1,QC c e h.2.1,QC c f h.2.2.1,QC c f h.2.2.2.1,QC c g h.2.2.2.2.1,QC c g h.2.2.2.2.2⟩
def Zo(T:TI)(A I:Nat)(a b:TP)(aa ab:TA)(an ac bn bc:Nat)(w:TW)(hl:T.length<=1000)(hT:Dl w A T)(ha:TyR w (.s aa an ac) a)(hb:TyR w (.s ab bn bc) b)(d3:a.length<=10000)(V:a.length=b.length):Calls prog 219 #[.agg #[.s (.p A) T.length I,.s ya yn yc],.s aa an ac,.s ab bn bc] w fun e m=>∃ja jn jc,e=.r (.s ja jn jc)/\TyR m (.s ja jn jc) (List.zipWith (Tr.joinT T) a b)/\Bl w m:=by
 obtain⟨e1,-,-⟩:=ha.cap;obtain⟨e2,-,-⟩:=hb.cap;subst e1 e2;obtain⟨i0,hi,b7,b8,b9⟩:=Bv4 Tryz.infoType;have a6:Bl w (w.alloc (O2 (.p A) T.length I ya yn yc)):=QN _;have T0:=Bf w (O2 (.p A) T.length I ya yn yc);have c0:=Bc V;clear V;go_in;go_wp2
 go_loopw [7,13] (fun v i wr=>∃k:Nat,k<=a.length/\i=.i (k:Int)/\wr.ownsRow (w.heap.size+1) 31 2 v k (Bu (List.zipWith (Tr.joinT T) (a.take k) (b.take k)))/\Bl w wr/\wr.heap[w.heap.size]?=some (O2 (.p A) T.length I ya yn yc))
  (fun _ i _=>a.length-(intOf i).toNat)
 case atStart=>exact⟨0,Bd,rfl,Bvl _ _ _ _,a6,T0⟩
 case round=>
  clear a6 T0;obtain⟨k,hk,rfl,Y,B,N⟩:=hrel;have O:=B.size;have V:=Ba c0;obtain⟨ua,uc,rfl⟩:=Bg Y;by_cases a7:k<a.length
  ·have a8:k<b.length:=Bd;obtain⟨g,o,rfl,hg,a9⟩:=(ha.below B).at Bd;obtain⟨g2,L,rfl,a2,b0⟩:=(hb.below B).at Bd;obtain⟨x0,x1⟩:=a9 k a7;obtain⟨y0,y1⟩:=b0 k a8;have hd:=Bo5 (Tr.joinT T) a b k a7 a8;generalize a[k]=s at *;generalize b[k]=t at *;obtain⟨c,f⟩:=s;obtain⟨Z,t2⟩:=t;simp only at x0 x1 y0 y1;have f0:(wr.alloc (O7 c f)).C w.heap.size 0 (.s (.p A) T.length I):=(Bb (Bk N (O7 c f)) 0).trans rfl;have f1:(wr.alloc (O7 c f)).C w.heap.size 1 (.s ya yn yc):=(Bb (Bk N (O7 c f)) 1).trans rfl;have p0:(wr.alloc (O7 c f)).C wr.heap.size 0 (.i c):=(Bb (Bf wr (O7 c f)) 0).trans rfl;have p1:(wr.alloc (O7 c f)).C wr.heap.size 1 (.i f):=(Bb (Bf wr (O7 c f)) 1).trans rfl;have z0:=(Bwg wr (O7 c f) ⟨g2,L+k*2,none⟩ a2).trans y0;have z1:=(Bwg wr (O7 c f) ⟨g2,L+k*2+1,none⟩ a2).trans y1;have D:=Pk (Bk N (O7 c f));have F:=Pk (Bf wr (O7 c f));have G:g2<(wr.alloc (O7 c f)).heap.size:=Fm;have b1:=(B.alloc O (O7 c f)).drew;have hc:=fun m (h:Bl w m)=>Bmg (ya:=ya) (yn:=yn) (yc:=yc) T A I c f Z t2 m hl (hT.below h);generalize Tr.joinT T (c,f) (Z,t2)=j at *;obtain⟨j1,j2⟩:=j;simp only at hc;have HC:=Bc hc;have HD:=Bc hd;have kb:(k:Int)<(a.length:Int):=Bd;have d4:(k:Int)<(b.length:Int):=Bd;have a3:Bl wr (wr.alloc (O7 c f)).drew:=((Vm _ wr).alloc (Wf _) _).drew;have J:(wr.alloc (O7 c f)).drew.C w.heap.size 0 (.s (.p A) T.length I)/\(wr.alloc (O7 c f)).drew.C w.heap.size 1 (.s ya yn yc)/\(wr.alloc (O7 c f)).drew.C wr.heap.size 0 (.i c)/\(wr.alloc (O7 c f)).drew.C wr.heap.size 1 (.i f)/\(wr.alloc (O7 c f)).drew.C g2 (L+k*2) (.i Z)/\(wr.alloc (O7 c f)).drew.C g2 (L+k*2+1) (.i t2):=⟨f0,f1,p0,p1,z0,z1⟩;have Z0:((wr.alloc (O7 c f)).alloc (O7 0 0)).drew.heap[wr.heap.size+1]?=some (O7 0 0):=Bv wr (O7 c f) (O7 0 0);have K:Bl (wr.alloc (O7 c f)).drew ((wr.alloc (O7 c f)).alloc (O7 0 0)).drew:=⟨rfl,rfl,rfl,by simp[World.drew],fun k hk=>(((Vm _ (wr.alloc (O7 c f))).alloc (Wf _) (O7 0 0)).block k hk)⟩;have lZ:(wr.alloc (O7 c f)).drew.heap.size<=((wr.alloc (O7 c f)).alloc (O7 0 0)).drew.heap.size:=K.size;have b2:Bl w ((wr.alloc (O7 c f)).alloc (O7 0 0)).drew:=((B.alloc O (O7 c f)).alloc (B.alloc O (O7 c f)).size (O7 0 0)).drew;replace D:w.heap.size<(wr.alloc (O7 c f)).drew.heap.size:=D;replace F:wr.heap.size<(wr.alloc (O7 c f)).drew.heap.size:=F;replace G:g2<(wr.alloc (O7 c f)).drew.heap.size:=G;clear a9 b0 hc V hd
   go_upto_region 6 with fail
   go_cut [10] from 14 to 33 (fun c6 wx=>∃jb,c6=.q jb 0/\wx.heap[jb]?=some (O7 j1 j2)/\Bl wr wx)
   case first=>
    go_wp2
    go_region_held3 (fun m=>m.C w.heap.size 0 (.s (.p A) T.length I)/\m.C w.heap.size 1 (.s ya yn yc)/\m.C wr.heap.size 0 (.i c)/\m.C wr.heap.size 1 (.i f)/\m.C g2 (L+k*2) (.i Z)/\m.C g2 (L+k*2+1) (.i t2))
     (first|(with_reducible exact J)|(with_reducible exact Iq D F G J z)|(with_reducible exact Iq D F G J (z.alloc z.size _))|(with_reducible exact Iq D F G J K)|(with_reducible exact Iq D F G J (K.trans (z.mono lZ)))|(with_reducible exact Iq D F G J ((K.trans (z.mono lZ)).setCell Fr _))|(with_reducible exact Iq D F G J (((K.trans (z.mono lZ)).setCell Fr _).setCell Fr _)))
     (first|(go_at_call 179;refine Qm (Ba HC _ (by first|(with_reducible exact b1)|(with_reducible exact b2))) ?_;intro w7 z;try (have Q:=stay z Z0;have c7:=Bb Q 0;have c8:=Bb Q 1;have d5:=Bj Q 0;have d6:=Bj Q 1;simp at c7 c8)))
    all_goals
     go_wp2
     go_meet
    ·exact⟨_,rfl,Bf w7 _,a3.trans ((z.mono (by simp[World.drew])).alloc (Bvv (by simp[World.drew]) z.size) _)⟩
    exact⟨_,rfl,Rp Q _ _,(((a3.trans (K.mono (by simp[World.drew]))).trans (z.mono (by simp[World.drew];omega))).setCell Fr _).setCell Fr _⟩
   case rest=>
    obtain⟨jb,rfl,JB,a0⟩:=hcut;have a4:=B.trans (a0.mono O);have c9:=a4.size;have b3:=stay a0 N;have a1:=Cx Y (Kp.of_below (e:=none) a0) Ck;have j0:=Bb JB 0;have b4:=Bb JB 1;have lJ:=Pk JB;simp at j0 b4;clear a0 Y B O N f0 f1 p0 p1 z0 z1 J D F G Z0 K lZ b2 b1 a3 x0 x1 y0 y1 hg a2;go_wp2_with (at_builtin;refine Bvw _ rfl _ _ 105 rfl (w.heap.size+1) 31 i0 _ 2 16 Bwq hi b7 b8 b9 rfl Ck _ _ _ rfl (a1.alloc _) ⟨wc.heap.size,0,none⟩ 1 1 [.i j1,.i j2] rfl rfl ?c1 ?c2 ?c3 ?c4 ?c5 ?_)
    case c1=>exact Dv _ _ _ _ rfl
    case c2=>intro u hu;simp at hu;rcases hu with rfl|rfl<;>rfl
    case c3=>unfold maxLen;omega
    case c4=>omega
    case c5=>simp;omega
    intro v' w2 b5 a5 _;have d0:=(a4.alloc c9 (O7 j1 j2)).grown a5 Fm (fun j hj=>by have:=(a1.lt j hj).1;omega);have d1:=(a5.block _ Fm (fun hh=>by have:=(a1.lt _ hh.symm).1;omega)).trans (Bk b3 (O7 j1 j2));have d2:w2.ownsRow (w.heap.size+1) 31 2 v' (k+1) (Bu (List.zipWith (Tr.joinT T) (a.take (k+1)) (b.take (k+1)))):=by rw[Ba HD,Ml];exact b5
    clear a5 b5 a1 b3 a4 JB j0 b4;go_wp2;go_roundw
    case rel=>exact⟨k+1,Bd,Lt,d2,d0,d1⟩
    case measure=>simp[intOf];omega
  have kb:¬(k:Int)<(a.length:Int):=Bd;have ek:k=a.length:=Bd;have b6:=Bc ek;clear ek;go_wp2;go_ret;refine⟨ua,k,uc,rfl,?_,B⟩;have:=Sc (l:=List.zipWith (Tr.joinT T) (a.take k) (b.take k)) (n:=k) Y Fm
  rwa [Bv0 (by have:=Ba b6;omega),Bv0 (by have:=Ba b6;omega)]at this
def Bm1(T:TI)(q C:Nat)(u v:FrV)(x y:Be)(w:TW)(Q:T.length<=1000)(V:Dl w q T)(c:u.is x w)(D:v.is y w):Calls prog 168 #[u.val,.agg #[.s (.p q) T.length C,.s ya yn yc],v.val] w fun e f=>∃z:FrV,e=.r (.tuple #[z.val,.bool (decide (x.locals.length=y.locals.length/\x.stack.length=y.stack.length))])/\((x.locals.length=y.locals.length/\x.stack.length=y.stack.length)->z.is (Lv T x y) f)/\Bl w f:=by
 have L:=fun f (h:Bl w f) N=>Zo (ya:=ya) (yn:=yn) (yc:=yc) T q C x.locals y.locals u.la v.la u.ln u.lc v.ln v.lc f Q (V.below h) (c.lo.below h) (D.lo.below h) (by have:=c.hl;omega) N;have O:=fun f (h:Bl w f) N=>Zo (ya:=ya) (yn:=yn) (yc:=yc) T q C x.stack y.stack u.sa v.sa u.sn u.sc v.sn v.sc f Q (V.below h) (c.st.below h) (D.st.below h) (by have:=c.hs;omega) N;have a6:=c.hl;have a7:=c.hs;obtain⟨Y,ln,Z,sa,sn,sc⟩:=u;obtain⟨a0,b6,a2,a3,b7,a4⟩:=v;obtain⟨e1,-,-⟩:=c.lo.cap;obtain⟨e2,-,-⟩:=c.st.cap;obtain⟨e3,-,-⟩:=D.lo.cap;obtain⟨e4,-,-⟩:=D.st.cap;simp only[FrV.val]at L O e1 e2 e3 e4 ⊢;subst e1 e2 e3 e4;have H1:=Bc L;have H2:=Bc O;clear L O c D;obtain⟨t,F⟩:=x;obtain⟨A,G⟩:=y;simp only at H1 H2 a6 a7 ⊢;have J:=Mq w (O24 Y t.length Z sa F.length sc) (O2 (.p q) T.length C ya yn yc) (O24 a0 A.length a2 a3 G.length a4) (O24 none 0 0 none 0 0);obtain⟨A0,T0,B0,j⟩:=J2 w (O24 Y t.length Z sa F.length sc) (O2 (.p q) T.length C ya yn yc) (O24 a0 A.length a2 a3 G.length a4) (O24 none 0 0 none 0 0);by_cases b:t.length=A.length
 ·by_cases l:F.length=G.length
  ·rw[Bxp ⟨b,l⟩];have n1:((t.length:Int) != (A.length:Int))=false:=by simp[b]
   have n2:((F.length:Int) != (G.length:Int))=false:=by simp[l]
   have a8:=Bc (Ba H1 _ J b);have B:=Bc l;have a9:=Bc b;clear b l;go_in;go_wp2_with fail;refine(Ba a8).mono ?_;rintro e w1 ⟨ja,jn,jc,rfl,b0,m⟩;have a5:=QB J m;have a1:=Bb (stay m A0) 1;have t0:=Bb (stay m T0) 0;have t1:=Bb (stay m T0) 1;have b1:=Bb (stay m B0) 1;have Z1:=stay m j;simp at a1 t0 t1 b1;have b2:=Bc (Ba H2 _ a5 (Ba B));clear m;go_wp2_with fail;refine(Ba b2).mono ?_;rintro e w2 ⟨ka,kn,kc,rfl,b3,K⟩;have b4:=QB a5 K;have I:=stay K Z1;obtain⟨g,i⟩:=cl2 I;obtain⟨q0,q1⟩:=fr2 I;have lZ:=Pk I;simp at g i;have b5:=b0.below K;clear K;go_wp2;refine tb (.tuple #[.agg #[.s ja jn jc,.s ka kn kc],.bool true]) (by simp[results,B0h,go_sem,g,i]) ?_;refine⟨⟨ja,jn,jc,ka,kn,kc⟩,rfl,fun _=>⟨b5.set_frame I _ _,b3.set_frame I _ _,?_,?_⟩,(b4.setCell Fm _).setCell Fm _⟩
   ·have:=Ba a9;simp[Lv];omega
   have:=Ba B;simp[Lv];omega
  rw[Bwx (fun h=>l h.2)];have n1:((t.length:Int) != (A.length:Int))=false:=by simp[b]
  have n2:((F.length:Int) != (G.length:Int))=true:=Fm;obtain⟨g,i⟩:=cl2 j;obtain⟨q0,q1⟩:=fr2 j;have lZ:=Pk j;simp at g i;have B:=Bc l;clear b l;go_in;go_wp2;refine tb (.tuple #[.agg #[.s none 0 0,.s none 0 0],.bool false]) (by simp[results,B0h,go_sem,g,i]) ?_;exact⟨⟨none,0,0,none,0,0⟩,rfl,fun h=>absurd h.2 (Ba B),J⟩
 rw[Bwx (fun h=>b h.1)];have n1:((t.length:Int) != (A.length:Int))=true:=Fm;obtain⟨g,i⟩:=cl2 j;obtain⟨q0,q1⟩:=fr2 j;have lZ:=Pk j;simp at g i;have B:=Bc b;clear b;go_in;go_wp2;refine tb (.tuple #[.agg #[.s none 0 0,.s none 0 0],.bool false]) (by simp[results,B0h,go_sem,g,i]) ?_;exact⟨⟨none,0,0,none,0,0⟩,rfl,fun h=>absurd h.1 (Ba B),J⟩
structure Lw(S G:Nat)(w w':World):Prop where
 os:w'.os=w.os
 tape:w'.tape=w.tape
 output:w'.output=w.output
 size:w.heap.size<=w'.heap.size
 block:∀k,k<w.heap.size->k≠S->k≠G->w'.heap[k]?=w.heap[k]?
 tys:∀(k:Nat) (cs:Array Value),w.heap[k]?=some (.cells cs 31 (0,0))->w'.heap[k]?=some (.cells cs 31 (0,0))
def Btl(S G:Nat)(w:TW):Lw S G w w:=⟨rfl,rfl,rfl,Wf _,fun _ _ _ _=>rfl,fun _ _ h=>h⟩
def Lw.trans{S s:Nat}{a b c:TW}(h:Lw S s a b)(k:Lw S s b c):Lw S s a c :=
 ⟨k.os.trans h.os,k.tape.trans h.tape,k.output.trans h.output,Bvv h.size k.size,fun i e f g=>(k.block i (Bvm e h.size) f g).trans (h.block i e f g),fun p n j=>k.tys p n (h.tys p n j)⟩
def Dd{S G:Nat}{b:TW}(h:Bl w b):Lw S G w b :=
 ⟨h.os,h.tape,h.output,h.size,fun k e _ _=>h.block k e,fun p n c=>(h.block p (Pk c)).trans c⟩
def Lw.below{S s:Nat}{b:TW}(h:Lw S s w b)(c:j<=S)(e:j<=s)(f:j<=w.heap.size):Below j w b:=⟨h.os,h.tape,h.output,h.size,fun k g=>h.block k Bd Bd Bd⟩
def Bo2{S s:Nat}{p:Addr}{G:Array Value}{g:TypeId}(c:p.block=S\/p.block=s)(f:w.heap[p.block]?=some (.cells G g (0,0)))(i:g≠31)(u:TX):Lw S s w (w.setCell p u) :=
 ⟨rfl,rfl,rfl,by simp[World.setCell],fun k _ l m=>Bvg _ _ _ _ (by rcases c with h|h<;>rw[h]<;>assumption),fun q t b=>by
  have j:q≠p.block:=by
   intro e;subst e;rw[f]at b;simp only[Option.some.injEq,Obj.cells.injEq]at b;exact i b.2.1
  exact(Bvg _ _ _ _ j).trans b⟩
def TyR.lw{S s:Nat}{b:TW}{i:TX}{q:TP}(h:TyR w i q)(k:Lw S s w b):TyR b i q:=by
 rcases h with h|⟨g,o,c,e,m,f,p,t,z⟩
 ·exact .inl h
 refine .inr ⟨g,o,c,e,m,k.tys g e f,p,t,fun j x A=>?_⟩;rw[Bb (k.tys g e f),<- Bb f];exact z j x A
def FrV.is.lw{S s:Nat}{v:FrV}{b:TW}(h:v.is x w)(k:Lw S s w b):v.is x b:=⟨h.lo.lw k,h.st.lw k,h.hl,h.hs⟩
structure SpC(cs:Array Value)(i:Nat)(v:FrV)(p:Od):Prop where
 c0:cs[i*5]?=some (.slice v.la v.ln v.lc)
 c1:cs[i*5+1]?=some (.slice v.sa v.sn v.sc)
 c2:cs[i*5+2]?=some (.bool p.st)
 c3:cs[i*5+3]?=some (.bool p.ri)
 c4:cs[i*5+4]?=some (.bool p.wa)
structure Ed(w:World)(S G:Nat)(b:PBd)(gc:Nat)(s:Bt):Prop where
 blk:w.heap[S]?=some (O27 (some ⟨b.tg,0,none⟩) b.T.length b.tc b.ya b.yn b.yc b.cl b.nm b.pa b.pl b.pc b.r1 b.r2 b.lo b.st b.ca b.cn b.cc b.ha b.hl b.hc b.ma b.ml b.mc b.la b.L.length b.lc b.fa1 b.fl1 b.fc1 b.fa2 b.fl2 b.fc2 (some ⟨b.tg,0,none⟩) b.T.length b.tc b.ya b.yn b.yc b.cl b.nm b.pa b.pl b.pc b.r1 b.r2 b.lo b.st b.ca b.cn b.cc b.ha b.hl b.hc b.ma b.ml b.mc b.la b.L.length b.lc (some ⟨G,0,none⟩) s.sp.length gc s.hop)
 spt:∃cs,w.heap[G]?=some (.cells cs 260 (0,0))/\cs.size=s.sp.length*5/\∀i,i<s.sp.length->∃v:FrV,SpC cs i v (s.at i)/\v.is (s.at i).fr w
 ne:S≠G
 len:s.sp.length<=1000
 cap:s.sp.length<=gc/\gc<=1000
def Ed.below{b:TW}{S s:Nat}{e:PBd}{Y:Bt}(h:Ed w S s e j Y)(f:Bl w b):Ed b S s e j Y:=by
 obtain⟨g,l,m,p⟩:=h.spt;exact⟨stay f h.blk,⟨g,stay f l,m,fun i q=>by obtain⟨v,a,c⟩:=p i q;exact⟨v,a,c.below f⟩⟩,h.ne,h.len,h.cap⟩
theorem Ed.at{w:World}{S s:Nat}{Y:Bt}(h:Ed w S s b j Y){i:Nat}(f:i<Y.sp.length):∃v:FrV,v.is (Y.at i).fr w/\w.cell? ⟨s,i*5,none⟩=some (.slice v.la v.ln v.lc)/\w.cell? ⟨s,i*5+1,none⟩=some (.slice v.sa v.sn v.sc)/\w.cell? ⟨s,i*5+2,none⟩=some (.bool (Y.at i).st)/\w.cell? ⟨s,i*5+3,none⟩=some (.bool (Y.at i).ri)/\w.cell? ⟨s,i*5+4,none⟩=some (.bool (Y.at i).wa):=by
 obtain⟨l,e,m,g⟩:=h.spt;obtain⟨v,a,c⟩:=g i f;exact⟨v,c,by rw[Bb e];exact a.c0,by rw[Bb e];exact a.c1,by rw[Bb e];exact a.c2,by rw[Bb e];exact a.c3,by rw[Bb e];exact a.c4⟩
def Ed.stop{S s:Nat}{Y:Bt}(h:Ed w S s b j Y):Ed (w.setCell (.a S 29) (.bool true)) S s b j Y.stop/\Lw S s w (w.setCell (.a S 29) (.bool true)):=by
 have k:Lw S s w (w.setCell (.a S 29) (.bool true)):=Bo2 (p:=.a S 29) (.inl rfl) h.blk Ck _;obtain⟨f,g,l,m⟩:=h.spt;refine⟨⟨?_,⟨f,?_,l,fun i q=>?_⟩,h.ne,h.len,h.cap⟩,k⟩
 ·rw[Bq h.blk];rfl
 ·exact(Bvg _ _ _ _ (fun e=>h.ne e.symm)).trans g
 obtain⟨v,a,c⟩:=m i q;exact⟨v,a,c.lw k⟩
def Xq(s:Bt)(q:Nat)(p:Od)(b:q<s.sp.length)(c:Bool)(i:Nat):(⟨s.sp.set q p,c⟩:Bt).at i=if i=q then p else s.at i:=by
 unfold Bt.at;simp only[Th,Bxi];by_cases e:q=i;·subst e;simp[b]
 rw[Pf e,Pf (fun h=>e h.symm)]
def Ed.set{S s:Nat}{l:Nat}{Y:Bt}(h:Ed w S s b l Y){q:Nat}(m:q<Y.sp.length)(I:j<5)(u:TX)(p:Od) (C:∀f v,SpC f q v (Y.at q)->f.size=Y.sp.length*5->v.is (Y.at q).fr w->∃g,SpC (f.setIfInBounds (q*5+j) u) q g p/\(g.is p.fr w)):Ed (w.setCell (.a s (q*5+j)) u) S s b l ⟨Y.sp.set q p,Y.hop⟩/\Lw S s w (w.setCell (.a s (q*5+j)) u):=by
 obtain⟨f,t,z,A⟩:=h.spt;have k:Lw S s w (w.setCell (.a s (q*5+j)) u):=Bo2 (p:=.a s (q*5+j)) (.inr rfl) t Ck _;refine⟨⟨?_,⟨_,Bq t u,by simpa using z,fun i B=>?_⟩,h.ne,by simpa using h.len,by simpa using h.cap⟩,k⟩
 ·refine(Bvg _ _ _ _ (fun e=>h.ne e)).trans ?_;simpa using h.blk
 simp only[Bv7]at B;rw[Xq Y q p m];by_cases e:i=q;·subst e;rw[Sp rfl];obtain⟨v,a,c⟩:=A i m;obtain⟨g,D,F⟩:=C f v a z c;exact⟨g,D,F.lw k⟩
 rw[Pf e];obtain⟨v,a,c⟩:=A i B;refine⟨v,⟨?_,?_,?_,?_,?_⟩,c.lw k⟩
 all_goals rw[By7 Bd]
 ·exact a.c0
 ·exact a.c1
 ·exact a.c2
 ·exact a.c3
 exact a.c4
def Vw{G:Array Value}(h:u<G.size)(b:TX):(G.setIfInBounds u b)[u]?=some b:=by rw[Array.getElem?_setIfInBounds_self,Sp h]
def Jb{G:Array Value}{k:Nat}(h:u≠k)(b:TX):(G.setIfInBounds u b)[k]?=G[k]?:=By7 h
def Ed.st{S s:Nat}{Y:Bt}(h:Ed w S s b j Y){q:Nat}(e:q<Y.sp.length)(t:Bool):Ed (w.setCell (.a s (q*5+2)) (.bool t)) S s b j ⟨Y.sp.set q ⟨(Y.at q).fr,t,(Y.at q).ri,(Y.at q).wa⟩,Y.hop⟩/\Lw S s w (w.setCell (.a s (q*5+2)) (.bool t)) :=
 h.set e Bd _ _ fun f v a g c=>⟨v,⟨by rw[Jb Bd];exact a.c0,by rw[Jb Bd];exact a.c1,Vw Bd _,by rw[Jb Bd];exact a.c3,by rw[Jb Bd];exact a.c4⟩,c⟩
def Ed.ri{S s:Nat}{Y:Bt}(h:Ed w S s b j Y){q:Nat}(e:q<Y.sp.length)(t:Bool):Ed (w.setCell (.a s (q*5+3)) (.bool t)) S s b j ⟨Y.sp.set q ⟨(Y.at q).fr,(Y.at q).st,t,(Y.at q).wa⟩,Y.hop⟩/\Lw S s w (w.setCell (.a s (q*5+3)) (.bool t)) :=
 h.set e Bd _ _ fun f v a g c=>⟨v,⟨by rw[Jb Bd];exact a.c0,by rw[Jb Bd];exact a.c1,by rw[Jb Bd];exact a.c2,Vw Bd _,by rw[Jb Bd];exact a.c4⟩,c⟩
def Ed.wa{S s:Nat}{Y:Bt}(h:Ed w S s b j Y){q:Nat}(e:q<Y.sp.length)(t:Bool):Ed (w.setCell (.a s (q*5+4)) (.bool t)) S s b j ⟨Y.sp.set q ⟨(Y.at q).fr,(Y.at q).st,(Y.at q).ri,t⟩,Y.hop⟩/\Lw S s w (w.setCell (.a s (q*5+4)) (.bool t)) :=
 h.set e Bd _ _ fun f v a g c=>⟨v,⟨by rw[Jb Bd];exact a.c0,by rw[Jb Bd];exact a.c1,by rw[Jb Bd];exact a.c2,by rw[Jb Bd];exact a.c3,Vw Bd _⟩,c⟩
def Ed.fr{S s:Nat}{i:Nat}{Y:Bt}(h:Ed w S s b i Y){q:Nat}(f:q<Y.sp.length){u:FrV}{y:Be}(g:u.is y w):Ed ((w.setCell (.a s (q*5)) (.s u.la u.ln u.lc)).setCell (.a s (q*5+1)) (.s u.sa u.sn u.sc)) S s b i ⟨Y.sp.set q ⟨y,(Y.at q).st,(Y.at q).ri,(Y.at q).wa⟩,Y.hop⟩/\Lw S s w ((w.setCell (.a s (q*5)) (.s u.la u.ln u.lc)).setCell (.a s (q*5+1)) (.s u.sa u.sn u.sc)):=by
 obtain⟨t,l⟩:=h.set (j:=0) f Bd (.s u.la u.ln u.lc) ⟨⟨y.locals,(Y.at q).fr.stack⟩,(Y.at q).st,(Y.at q).ri,(Y.at q).wa⟩ fun z v a m c =>
  ⟨⟨u.la,u.ln,u.lc,v.sa,v.sn,v.sc⟩,⟨Vw Bd _,by rw[Jb Bd];exact a.c1,by rw[Jb Bd];exact a.c2,by rw[Jb Bd];exact a.c3,by rw[Jb Bd];exact a.c4⟩,⟨g.lo,c.st,g.hl,c.hs⟩⟩
 have e:=Xq Y q ⟨⟨y.locals,(Y.at q).fr.stack⟩,(Y.at q).st,(Y.at q).ri,(Y.at q).wa⟩ f Y.hop q;rw[Sp rfl]at e;have p:=g.lw l;obtain⟨g2,A⟩:=t.set (j:=1) (q:=q) (by simpa using f) Bd (.s u.sa u.sn u.sc) ⟨y,(Y.at q).st,(Y.at q).ri,(Y.at q).wa⟩ fun z v a m c=>by
  rw[e]at a c;simp only[Bv7]at m;exact⟨⟨v.la,v.ln,v.lc,u.sa,u.sn,u.sc⟩,⟨by rw[Jb Bd];exact a.c0,Vw Bd _,by rw[Jb Bd];exact a.c2,by rw[Jb Bd];exact a.c3,by rw[Jb Bd];exact a.c4⟩,⟨c.lo,p.st,c.hl,p.hs⟩⟩
 simp only[Bzf]at g2;exact⟨g2,l.trans A⟩
def Ed.put2{S s:Nat}{Y:Bt}{q:Nat}{y:Be}(c:q<Y.sp.length)(g:Ed w S s b j ⟨Y.sp.set q ⟨y,(Y.at q).st,(Y.at q).ri,(Y.at q).wa⟩,Y.hop⟩):Ed ((w.setCell (.a s (q*5+2)) (.bool true)).setCell (.a s (q*5+3)) (.bool true)) S s b j (Y.put q y)/\Lw S s w ((w.setCell (.a s (q*5+2)) (.bool true)).setCell (.a s (q*5+3)) (.bool true)):=by
 obtain⟨g2,h⟩:=g.st (q:=q) (by simpa using c) true;have e:=Xq Y q ⟨y,(Y.at q).st,(Y.at q).ri,(Y.at q).wa⟩ c Y.hop q;rw[Sp rfl]at e;rw[e]at g2;simp only[Bzf]at g2;obtain⟨g3,i⟩:=g2.ri (q:=q) (by simpa using c) true;have f:=Xq Y q ⟨y,true,(Y.at q).ri,(Y.at q).wa⟩ c Y.hop q;rw[Sp rfl]at f;rw[f]at g3;simp only[Bzf]at g3;exact⟨g3,h.trans i⟩
def Ed.free{S s:Nat}{Y:Bt}(h:Ed w S s b j Y)(i:Nat):w.frozen? (.a s i)=false/\s<w.heap.size:=by
 obtain⟨e,c,_⟩:=h.spt;exact⟨Bj c i,Pk c⟩
def Ed.put1{S s:Nat}{Y:Bt}{K:Nat}{y:Be}(e:K<Y.sp.length)(c:Ed w S s b j ⟨Y.sp.set K ⟨y,(Y.at K).st,(Y.at K).ri,(Y.at K).wa⟩,Y.hop⟩):w.C S 28 (.s (.p s) Y.sp.length j)/\S<w.heap.size/\w.C s (K*5+2) (.bool (Y.at K).st)/\w.C s (K*5+3) (.bool (Y.at K).ri)/\w.frozen? (.a s (K*5+2))=false/\w.frozen? (.a s (K*5+3))=false/\s<w.heap.size:=by
 obtain⟨u,_,_,_,f,g,_⟩:=c.at (i:=K) (by simpa using e);rw[Xq Y K _ e,Sp rfl]at f g;have h:=Bb c.blk 28;simp at h;exact⟨h,Pk c.blk,f,g,(c.free _).1,(c.free _).1,(c.free 0).2⟩
def Ed.box{S s:Nat}{Y:Bt}(h:Ed w S s b j Y){g:Nat}{l f:TA}{m p q t:Nat}{ty:TypeId}(z:w.heap[g]?=some (.cells #[.s l m p,.s f q t] ty (0,0)))(A:g≠S)(B:g≠s)(x y:TX):Ed ((w.setCell (.a g 0) x).setCell (.a g 1) y) S s b j Y:=by
 obtain⟨C,D,F,I⟩:=h.spt;exact⟨(On (fun e=>A e.symm)).trans h.blk,⟨C,(On (fun e=>B e.symm)).trans D,F,fun i J=>by obtain⟨v,a,c⟩:=I i J;exact⟨v,a,c.set2 z _ _⟩⟩,h.ne,h.len,h.cap⟩
def Lw.box{S s:Nat}{b:TW}(h:Lw S s w b){g:Nat}(l:w.heap.size<=g)(x y:TX):Lw S s w ((b.setCell (.a g 0) x).setCell (.a g 1) y) :=
 ⟨h.os,h.tape,h.output,by have:=h.size;simpa[World.setCell] using this,fun k e f i=>(On Bd).trans (h.block k e f i),fun p j c=>by
  have:=Pk c;exact(On Bd).trans (h.tys p j c)⟩
def Za(b:PBd)(S G gc:Nat)(s:Bt)(v:FrV)(x:Be)(q:Int)(w:TW)(hl:b.T.length<=1000)(hT:Dl w b.tg b.T)(h:Ed w S G b gc s)(hv:v.is x w):Calls prog 111 #[.q S 0,v.val,.i q] w fun e A=>e=.r (.tuple #[])/\Ed A S G b gc (D9 b.T b.st x q s)/\Lw S G w A:=by
 obtain⟨j,ln,l,m,sn,t⟩:=v;obtain⟨d6,-,-⟩:=hv.st.cap;obtain⟨d7,-,-⟩:=hv.lo.cap;obtain⟨f,c⟩:=x;simp only at d6 d7;subst d6 d7;have a7:Bl w (w.alloc (O24 j f.length l m c.length t)):=QN _;have V:=h.below a7;have A1:=Bf w (O24 j f.length l m c.length t);have k1:Lw S G w (w.alloc (O24 j f.length l m c.length t)):=Dd a7;have b1:=hv.below a7;have b2:=hT.below a7;obtain⟨I,J⟩:=cl2 A1;have Y:=Bb V.blk 0;have Z:=Bb V.blk 1;have x8:=Bb V.blk 8;have a3:=Bb V.blk 28;have b3:=Bb V.blk 29;have c0:=Bj V.blk 29;have K:=Pk V.blk;simp at I J Y Z x8 a3 b3;have i0:=h.len;have i1:S<w.heap.size:=Pk h.blk;have i2:G<w.heap.size:=(h.free 0).2;have i3:=h.cap;unfold D9;simp only[FrV.val];by_cases c1:q<0;rw[Sp (.inl c1)]
 rotate_left
 obtain⟨k,rfl⟩:∃k:Nat,q=(k:Int):=⟨q.toNat,Bd⟩;have d1:decide ((k:Int)<0)=false:=Bwx c1;by_cases c2:(s.sp.length:Int)<=(k:Int);rw[Sp (.inr (.inl c2))]
 rotate_left
 have d2:decide (s.sp.length<=k)=false:=Bwx Bd;by_cases c3:b.st<(c.length:Int);rw[Sp (.inr (.inr c3))]
 rotate_left
 ·rw[Pf Bd];have d3:decide (b.st<(c.length:Int))=false:=Bwx c3;have hk:k<s.sp.length:=Bd;have kb:(k:Int)<(s.sp.length:Int):=Bd;have ek:((k:Int)).toNat=k:=Fr;rw[ek];obtain⟨u,hu,z0,z1,z2,z3,z4⟩:=V.at hk;obtain⟨ua,un,uc,va,vn,vc⟩:=u;simp only at z0 z1;have lG:=(V.free 0).2;generalize d8:(s.at k).st=st at *;generalize d9:(s.at k).ri=ri at *;generalize i4:(s.at k).wa=wa at *;cases st with
  | false =>
   rw[Sp rfl];go_in;go_wp2;go_quiet (fail);rename_i nq;have F:Bl (w.alloc (O24 j f.length l m c.length t)) (((w.alloc (O24 j f.length l m c.length t)).drewN nq).alloc (O28 ua un uc va vn vc false ri wa)):=(Cy (Vm (w.alloc (O24 j f.length l m c.length t)).heap.size (w.alloc (O24 j f.length l m c.length t)))).alloc (Wf (w.alloc (O24 j f.length l m c.length t)).heap.size) _;have N:=V.below F;have P2:(((w.alloc (O24 j f.length l m c.length t)).drewN nq).alloc (O28 ua un uc va vn vc false ri wa)).heap[w.heap.size+1]?=some (O28 ua un uc va vn vc false ri wa):=Bv w (O24 j f.length l m c.length t) _;have A2:=stay F A1;have a8:=b1.below F;have b4:=hu.below F;have b5:=b2.below F;have K2:=k1.trans (Dd F);go_wp2;clear V A1 b1 hu b2 k1 F I J Y Z x8 a3 b3 c0 K z0 z1 z2 z3 z4 hv hT h a7 lG;generalize ((w.alloc (O24 j f.length l m c.length t)).drewN nq).alloc (O28 ua un uc va vn vc false ri wa)=w2 at *;obtain⟨I,J⟩:=cl2 A2;obtain⟨p0,p1,p2⟩:=cl3 P2;have Y:=Bb N.blk 0;have Z:=Bb N.blk 1;have L:=Pk A2;have O:=Pk P2;have K:=Pk N.blk;simp at I J p0 p1 p2 Y Z;go_quiet (fail);have F:Bl w2 (w2.drewN nq):=Cy (Vm _ _);have D:=N.below F;have A3:=stay F A2;have b6:=a8.below F;have K3:=K2.trans (Dd F);go_wp2;clear N A2 P2 a8 b4 b5 K2 F I J p0 p1 p2 Y Z L O K;generalize w2.drewN nq=w3 at *;have a3:=Bb D.blk 28;obtain⟨I,J⟩:=cl2 A3;have L:=Pk A3;have K:=Pk D.blk;obtain⟨u9,-,z0,z1,z2,z3,-⟩:=D.at hk;obtain⟨f6,f7,f8,f9,g0,g1⟩:=u9;have f0:=(D.free (k*5)).1;have f1:=(D.free (k*5+1)).1;have f2:=(D.free (k*5+2)).1;have f3:=(D.free (k*5+3)).1;have lG:=(D.free 0).2;simp only at z0 z1;simp at I J a3
   go_region
   obtain⟨g4,k4⟩:=D.fr (u:=⟨j,f.length,l,m,c.length,t⟩) hk b6;have hd:=fun A:World=>(Vm A.heap.size A).drew;have g5:=g4.below (hd _);have K5:=(K3.trans k4).trans (Dd (hd _));obtain⟨g2,g7,y2,y3,q2,q3,g9⟩:=g5.put1 hk;rw[d8]at y2;rw[d9]at y3;clear D A3 b6 K3 a3 I J L K z0 z1 z2 z3 f0 f1 f2 f3 lG g4 k4 hd;generalize ((w3.setCell (.a G (k*5)) (.s j f.length l)).setCell (.a G (k*5+1)) (.s m c.length t)).drew=w5 at *;go_wp2;go_end0;obtain⟨g6,k6⟩:=Ed.put2 hk g5;exact⟨rfl,g6,K5.trans k6⟩
  | true =>
   rw[Pf Fr];have hF:=fun A c4 c5 c6=>Bd5 (ya:=b.ya) (yn:=b.yn) (yc:=b.yc) b.T b.tg b.tc ⟨j,f.length,l,m,c.length,t⟩ ⟨ua,un,uc,va,vn,vc⟩ ⟨f,c⟩ (s.at k).fr A hl c4 c5 c6;have hJ:=fun A c4 c5 c6=>Bm1 (ya:=b.ya) (yn:=b.yn) (yc:=b.yc) b.T b.tg b.tc ⟨j,f.length,l,m,c.length,t⟩ ⟨ua,un,uc,va,vn,vc⟩ ⟨f,c⟩ (s.at k).fr A hl c4 c5 c6;simp only[FrV.val]at hF hJ;generalize i5:(s.at k).fr=fr at *;generalize Hx b.T ⟨f,c⟩ fr=FB at *;have HF:=Bc hF;have HJ:=Bc hJ;clear hF hJ;cases FB;rw[Pf Fr];obtain⟨bc,a5⟩:∃bc,decide (f.length=fr.locals.length/\c.length=fr.stack.length)=bc:=⟨_,rfl⟩;have a9:=Bc (fun (_:Unit)=>a5);generalize hR:(if f.length=fr.locals.length/\c.length=fr.stack.length then s.put k (Lv b.T ⟨f,c⟩ fr) else s.stop)=R
   have c7:=Bc (fun (_:Unit)=>hR);clear a5 hR
   rotate_left
   rw[Sp rfl]
   rotate_left
   all_goals
    go_in;go_wp2;go_quiet (fail);rename_i nq;have F:Bl (w.alloc (O24 j f.length l m c.length t)) (((w.alloc (O24 j f.length l m c.length t)).drewN nq).alloc (O28 ua un uc va vn vc true ri wa)):=(Cy (Vm (w.alloc (O24 j f.length l m c.length t)).heap.size (w.alloc (O24 j f.length l m c.length t)))).alloc (Wf (w.alloc (O24 j f.length l m c.length t)).heap.size) _;have N:=V.below F;have P2:(((w.alloc (O24 j f.length l m c.length t)).drewN nq).alloc (O28 ua un uc va vn vc true ri wa)).heap[w.heap.size+1]?=some (O28 ua un uc va vn vc true ri wa):=Bv w (O24 j f.length l m c.length t) _;have A2:=stay F A1;have a8:=b1.below F;have b4:=hu.below F;have b5:=b2.below F;have K2:=k1.trans (Dd F);go_wp2;clear V A1 b1 hu b2 k1 F I J Y Z x8 a3 b3 c0 K z0 z1 z2 z3 z4 hv hT h a7 lG;generalize ((w.alloc (O24 j f.length l m c.length t)).drewN nq).alloc (O28 ua un uc va vn vc true ri wa)=w2 at *;obtain⟨I,J⟩:=cl2 A2;obtain⟨p0,p1,p2⟩:=cl3 P2;have Y:=Bb N.blk 0;have Z:=Bb N.blk 1;have L:=Pk A2;have O:=Pk P2;have K:=Pk N.blk;simp at I J p0 p1 p2 Y Z;have f4:=Ba HF w2.drew (b5.below (Vm _ _).drew) (a8.below (Vm _ _).drew) (b4.below (Vm _ _).drew);have f5:=Bc f4;clear f4
    go_region_held3 (fun A=>A.C w.heap.size 0 (.s j f.length l)/\A.C w.heap.size 1 (.s m c.length t)/\A.C (w.heap.size+1) 0 (.s ua un uc)/\A.C (w.heap.size+1) 1 (.s va vn vc)/\A.C (w.heap.size+1) 2 (.bool true)/\A.C S 0 (.s (.p b.tg) b.T.length b.tc)/\A.C S 1 (.s b.ya b.yn b.yc))
     (first|exact⟨I,J,p0,p1,p2,Y,Z⟩|exact⟨QC a4 L I,QC a4 L J,QC a4 O p0,QC a4 O p1,QC a4 O p2,QC a4 K Y,QC a4 K Z⟩)
     (first|(go_at_call 167;refine(Ba f5).mono ?_;rintro e B ⟨rfl,a4⟩))
    have a2:Bl w2 B:=(Vm _ _).drew.trans a4
   ·have h7:=N.below a2;have A7:=stay a2 A2;have P7:=stay a2 P2;have K7:=K2.trans (Dd a2);have c8:=a8.below a2;have c9:=b4.below a2;have d0:=b5.below a2;clear N A2 P2 K2 a8 b4 b5 a4 a2 I J p0 p1 p2 Y Z L O K f5;obtain⟨I,J⟩:=cl2 A7;obtain⟨p0,p1,p2⟩:=cl3 P7;have Y:=Bb h7.blk 0;have Z:=Bb h7.blk 1;have L:=Pk A7;have O:=Pk P7;have K:=Pk h7.blk;simp at I J p0 p1 p2 Y Z
    go_upto_region 6 with fail
    go_cut [7,8] from 9 (fun s7 s8 wx=>∃(jb:Nat) (z:FrV),s7=.q jb 0/\s8=.bool bc/\wx.heap[jb]?=some (O24 z.la z.ln z.lc z.sa z.sn z.sc)/\(bc=true->FrV.is z (Lv b.T ⟨f,c⟩ fr) wx)/\Bl B wx)
    case first=>
     have a6:B.drew.C w.heap.size 0 (.s j f.length l)/\B.drew.C w.heap.size 1 (.s m c.length t)/\B.drew.C (w.heap.size+1) 0 (.s ua un uc)/\B.drew.C (w.heap.size+1) 1 (.s va vn vc)/\B.drew.C S 0 (.s (.p b.tg) b.T.length b.tc)/\B.drew.C S (0+1) (.s b.ya b.yn b.yc):=⟨I,J,p0,p1,Y,Z⟩;have b0:Bl B.drew (B.alloc (O24 none 0 0 none 0 0)).drew:=⟨rfl,rfl,rfl,(show B.heap.size<=(B.alloc (O24 none 0 0 none 0 0)).heap.size by simp),fun k hk=>(((Vm _ B).alloc (Wf _) (O24 none 0 0 none 0 0)).block k hk)⟩;have lZ:B.drew.heap.size<=(B.alloc (O24 none 0 0 none 0 0)).drew.heap.size:=b0.size;have Z0:(B.alloc (O24 none 0 0 none 0 0)).drew.heap[B.heap.size]?=some (O24 none 0 0 none 0 0):=Bf B _;have b7:Bl B B.drew:=(Vm _ _).drew;have b8:Bl B (B.alloc (O24 none 0 0 none 0 0)).drew:=b7.trans b0;replace L:w.heap.size<B.drew.heap.size:=L;replace O:w.heap.size+1<B.drew.heap.size:=O;replace K:S<B.drew.heap.size:=K;have d4:=Ba HJ B.drew (d0.below b7) (c8.below b7) (c9.below b7);have d5:=Ba HJ (B.alloc (O24 none 0 0 none 0 0)).drew (d0.below b8) (c8.below b8) (c9.below b8);rw[Ba a9 ()]at d4 d5;have h0:=Bc d4;have h4:=Bc d5;clear d4 d5;go_wp2
     go_region_held3 (fun A=>A.C w.heap.size 0 (.s j f.length l)/\A.C w.heap.size 1 (.s m c.length t)/\A.C (w.heap.size+1) 0 (.s ua un uc)/\A.C (w.heap.size+1) 1 (.s va vn vc)/\A.C S 0 (.s (.p b.tg) b.T.length b.tc)/\A.C S (0+1) (.s b.ya b.yn b.yc))
      (first|(with_reducible exact a6)|(with_reducible exact Iq L O K a6 Q)|(with_reducible exact Iq L O K a6 (Q.alloc Q.size _))|(with_reducible exact Iq L O K a6 b0)|(with_reducible exact Iq L O K a6 (b0.trans (Q.mono lZ)))|(with_reducible exact Iq L O K a6 ((b0.trans (Q.mono lZ)).setCell (Wf _) _))|(with_reducible exact Iq L O K a6 (((b0.trans (Q.mono lZ)).setCell (Wf _) _).setCell (Wf _) _)))
      (first|(go_at_call 168;refine(Ba h0).mono ?_;rintro e w9 ⟨z,rfl,hz,Q⟩;obtain⟨ja,jn,jc,ka,kn,kc⟩:=z;simp only[FrV.val])|(go_at_call 168;refine(Ba h4).mono ?_;rintro e w9 ⟨z,rfl,hz,Q⟩;obtain⟨ja,jn,jc,ka,kn,kc⟩:=z;simp only[FrV.val];have Z9:=stay Q Z0;have h5:=Bb Z9 0;have h6:=Bb Z9 1;have i6:=Bj Z9 0;have i7:=Bj Z9 1;simp at h5 h6))
     all_goals
      go_wp2
      go_meet
     ·exact⟨_,⟨ja,jn,jc,ka,kn,kc⟩,rfl,rfl,Bf w9 _,fun hq=>(hz (of_decide_eq_true ((Ba a9 ()).trans hq))).below (QN _),(b7.trans (Q.mono (Wf _))).alloc (Bvv (Wf _) Q.size) _⟩
     exact⟨_,⟨ja,jn,jc,ka,kn,kc⟩,rfl,rfl,Rp Z9 _ _,fun hq=>(hz (of_decide_eq_true ((Ba a9 ()).trans hq))).set2 Z9 _ _,((QB b8 Q).setCell (Wf _) _).setCell (Wf _) _⟩
    case rest=>
     obtain⟨jb,z,rfl,rfl,ZB,b9,Q⟩:=hcut;obtain⟨ja,jn,jc,ka,kn,kc⟩:=z;simp only at ZB;have h9:=h7.below Q;have A9:=stay Q A7;have K9:=K7.trans (Dd Q);clear h7 A7 P7 K7 c8 c9 d0 Q I J p0 p1 p2 Y Z L O K;obtain⟨y0,y1⟩:=cl2 ZB;obtain⟨I,J⟩:=cl2 A9;obtain⟨q0,q1⟩:=fr2 A9;have lJ:=Pk ZB;have L:=Pk A9;simp at I J y0 y1;have hR:=Ba c7 ();have a5:=Ba a9 ();cases bc
     ·rw[Pf (of_decide_eq_false a5)]at hR;subst hR;clear a5 a9 c7;have D:=h9;have K3:=K9;clear h9 K9;have b3:=Bb D.blk 29;have c0:=Bj D.blk 29;have K:=Pk D.blk;simp at b3;obtain⟨g4,k4⟩:=D.stop;go_wp2;refine tb (.tuple #[]) (by simp[results,Byv,go_sem]) ?_;exact⟨rfl,g4,K3.trans k4⟩
     rw[Sp (of_decide_eq_true a5)]at hR;subst hR;replace b9:=b9 rfl;clear a5 a9 c7;have D:=h9.box A9 Bd Bd (.s ja jn jc) (.s ka kn kc);have A3:=Rp A9 (.s ja jn jc) (.s ka kn kc);have b6:=b9.set2 A9 (.s ja jn jc) (.s ka kn kc);have K3:=K9.box (g:=w.heap.size) (Wf _) (.s ja jn jc) (.s ka kn kc)
     go_upto_region 10 with fail
     clear h9 A9 b9 K9 ZB y0 y1 I J q0 q1 lJ L;generalize ((wc.setCell (.a w.heap.size 0) (.s ja jn jc)).setCell (.a w.heap.size 1) (.s ka kn kc))=w3 at *;have a3:=Bb D.blk 28;obtain⟨I,J⟩:=cl2 A3;have L:=Pk A3;have K:=Pk D.blk;obtain⟨u9,-,z0,z1,z2,z3,-⟩:=D.at hk;obtain⟨f6,f7,f8,f9,g0,g1⟩:=u9;have f0:=(D.free (k*5)).1;have f1:=(D.free (k*5+1)).1;have f2:=(D.free (k*5+2)).1;have f3:=(D.free (k*5+3)).1;have lG:=(D.free 0).2;simp only at z0 z1;simp at I J a3
     go_region
     obtain⟨g4,k4⟩:=D.fr (u:=⟨ja,jn,jc,ka,kn,kc⟩) hk b6;have hd:=fun A:World=>(Vm A.heap.size A).drew;have g5:=g4.below (hd _);have K5:=(K3.trans k4).trans (Dd (hd _));obtain⟨g2,g7,y2,y3,q2,q3,g9⟩:=g5.put1 hk;rw[d8]at y2;rw[d9]at y3;clear D A3 b6 K3 a3 I J L K z0 z1 z2 z3 f0 f1 f2 f3 lG g4 k4 hd;generalize ((w3.setCell (.a G (k*5)) (.s ja jn jc)).setCell (.a G (k*5+1)) (.s ka kn kc)).drew=w5 at *;go_wp2;go_end0;obtain⟨g6,k6⟩:=Ed.put2 hk g5;exact⟨rfl,g6,K5.trans k6⟩
   have g8:=N.below a2;have K8:=K2.trans (Dd a2);go_wp2;refine tb (.tuple #[]) (by simp[results,Byv,go_sem]) ?_;exact⟨rfl,g8,K8⟩
 all_goals
  clear h hv b1 hT b2;go_in;go_wp2;go_quiet (fail);rename_i nq;have F:Bl (w.alloc (O24 j f.length l m c.length t)) ((w.alloc (O24 j f.length l m c.length t)).drewN nq):=Cy (Vm _ _);have N:=V.below F;have h8:=Bb N.blk 29;have i8:=Bj N.blk 29;have i9:=Pk N.blk;simp at h8;obtain⟨g3,k3⟩:=N.stop;have K3:=(k1.trans (Dd F)).trans k3;clear V N k1 k3 F;go_wp2;refine tb (.tuple #[]) (by simp[results,Byv,go_sem]) ?_;exact⟨rfl,g3,K3⟩
def Bei(b:PBd)(S G m:Nat)(s:Bt)(v:FrV)(x:Be)(q:Int)(w:TW)(Z:b.T.length<=1000)(B:Dl w b.tg b.T)(h:Ed w S G b m s)(C:v.is x w):Calls prog 223 #[.q S 0,v.val,.i q] w fun e g=>e=.r (.tuple #[])/\Ed g S G b m (Ie b.T b.st x q s)/\Lw S G w g:=by
 have p:=fun g (t:Bl w g)=>Za b S G m s v x q g Z (B.below t) (h.below t) (C.below t);unfold Ie Vt;generalize D9 b.T b.st x q s=s1 at *;obtain⟨D,F,I,J,L,N⟩:=v;simp only[FrV.val]at p ⊢;have z:=Bc p;have j:Bl w (w.alloc (O24 D F I J L N)):=QN _;have l:Lw S G w (w.alloc (O24 D F I J L N)):=Dd j;clear p B h C;by_cases O:0<=q
 ·obtain⟨k,rfl⟩:∃k:Nat,q=(k:Int):=⟨q.toNat,Bd⟩;by_cases Q:(k:Int)<(s1.sp.length:Int);·rw[Sp ⟨O,Q⟩];go_in;go_wp2_with fail;refine Qm (Ba z _ j) ?_;rintro V ⟨c,f⟩;have A:=Bb c.blk 28;have lS:=Pk c.blk;obtain⟨u,hu,z0,z1,z2,z3,z4⟩:=c.at (i:=k) Bd;obtain⟨f4,lG⟩:=c.free (k*5+4);obtain⟨g2,Y⟩:=c.wa (q:=k) Bd true;have K:=(l.trans f).trans Y;have a0:=c.cap;have a1:=c.len;simp at A;clear l f Y c hu j;go_wp2;go_end0;exact⟨rfl,by simpa[Bt.want] using g2,K⟩
  rw[Pf (fun h=>Q h.2)];go_in;go_wp2_with fail;refine Qm (Ba z _ j) ?_;rintro V ⟨c,f⟩;have A:=Bb c.blk 28;have lS:=Pk c.blk;simp at A;go_wp2;go_end0;exact⟨rfl,c,l.trans f⟩
 rw[Pf (fun h=>O h.1)];go_in;go_wp2_with fail;refine Qm (Ba z _ j) ?_;rintro V ⟨c,f⟩;go_wp2;go_end0;exact⟨rfl,c,l.trans f⟩
def Lw.stay{S s:Nat}{b:TW}{k:Nat}{o:Obj}(c:Lw S s w b)(h:w.heap[k]?=some o)(e:k≠S)(f:k≠s):b.heap[k]?=some o:=(c.block k (Pk h) e f).trans h
def Bnq(b:PBd)(S G gc:Nat)(f:List Rd.Hnd)(bb:Nat)(p:Int)(s:Bt)(v:FrV)(x:Be)(w:TW)(hl:b.T.length<=1000)(hT:∀j,Lw S G w j->Dl j b.tg b.T)(a5:b.hl=f.length)(c1:f.length<=1000)(b3:∀j,Lw S G w j->J5 j bb (.s b.ha b.hl b.hc) f)(h:Ed w S G b gc s)(hv:v.is x w):Calls prog 220 #[.q S 0,.i p,v.val] w fun e j=>e=.r (.tuple #[])/\Ed j S G b gc (Dy b.T b.st p x.locals f s)/\Lw S G w j:=by
 have hJ:=fun u y q s' j (k:Lw S G w j) h' hu=>Bei b S G gc s' u y q j hl (hT j k) h' hu;have hC:=fun c j (k:Lw S G w j)=>Bcq c v x j (hv.lw k);have D:=Bc b3;generalize l:Dy b.T b.st p x.locals f s=R;have A:Hid (Dy b.T b.st p x.locals (f.drop 0) s=R):=l;have a2:=Bb h.blk 10;have lS:=Pk h.blk;simp at a2;have b7:S<w.heap.size:=lS;have c2:G<w.heap.size:=(h.free 0).2;obtain⟨I,J,K,L,N,O⟩:=v;simp only[FrV.val]at hC ⊢;rw[a5]at a2;have HJ:=Bc hJ;have HC:=Bc hC;have a6:Bl w (w.alloc (O24 I J K L N O)):=QN _;have K0:Lw S G w (w.alloc (O24 I J K L N O)):=Dd a6;have L0:=h.below a6;have A0:=Bf w (O24 I J K L N O);have a7:=(Bwg w (O24 I J K L N O) ⟨S,10,none⟩ b7).trans a2;clear l hT b3 hv hJ hC a2 h hl;unfold Hid at D;rw[a5]at D;generalize b.ha=ha at a7 D;generalize b.hc=hc at a7 D;have b8:=Bc D;clear D a5;go_in;go_wp2
 go_loopw [15] (fun i wr=>∃(q:Nat) (t:Bt),q<=f.length/\i=.i (q:Int)/\Hid (Dy b.T b.st p x.locals (f.drop q) t=R)/\Ed wr S G b gc t/\Lw S G w wr/\wr.heap[w.heap.size]?=some (O24 I J K L N O))
  (fun i _=>f.length-(intOf i).toNat)
 case atStart=>exact⟨0,s,Bd,rfl,A,L0,K0,A0⟩
 case round=>
  clear A L0 K0 A0 a6 a7;obtain⟨q,t,hq,rfl,A,L1,F,CA⟩:=hrel;have c3:=F.size;by_cases z:q<f.length
  ·obtain⟨g,hg,c4,_,Q⟩:=Cf (Ba b8 _ F) Bd;have y0:=(Q _ (De f q z 0 Bd).2).trans (De f q z 0 Bd).1;have y1:=(Q _ (De f q z 1 Bd).2).trans (De f q z 1 Bd).1;have y2:=(Q _ (De f q z 2 Bd).2).trans (De f q z 2 Bd).1;have y3:=(Q _ (De f q z 3 Bd).2).trans (De f q z 3 Bd).1;have hd:f.drop q=f[q]::f.drop (q+1):=Wr z;have l:=Ba A;rw[hd,Dy]at l;generalize f[q]=hh at *;obtain⟨V,Y,B,C⟩:=hh;simp at y0 y1 y2 y3;simp only at l;have kb:(q:Int)<(f.length:Int):=Bd;have a3:Bl wr (wr.alloc (O19 V Y B C)):=QN _;have L2:=L1.below a3;have K2:=F.trans (Dd a3);have a4:=stay a3 CA;have a8:=Bf wr (O19 V Y B C);have a9:=Y4 ⟨V,Y,B,C⟩ p (wr.alloc (O19 V Y B C));simp only at a9;generalize El ⟨V,Y,B,C⟩ p=CV at *;have b4:=Bc a9;clear a9 hd Q A a3;subst hg;cases CV with
   | false =>
    rw[Pf Fr]at l;have HG:Hid (Dy b.T b.st p x.locals (f.drop (q+1)) t=R):=l;clear l;go_wp2_with fail;refine Qm (Ba b4) ?_;intro w1 m;have L3:=L2.below m;have Z:=K2.trans (Dd m);have a0:=stay m a4;clear m L2 K2 a4 L1 F CA a8;go_wp2;go_roundw
    case rel=>exact⟨q+1,t,Bd,Lt,HG,L3,Z,a0⟩
    case measure=>simp[intOf];omega
   | true =>
    rw[Sp rfl]at l;have HG:Hid (Dy b.T b.st p x.locals (f.drop (q+1)) (Ie b.T b.st ⟨x.locals,[(3,C)]⟩ B t)=R):=l;clear l;go_wp2_with fail;refine Qm (Ba b4) ?_;intro w1 m;have L3:=L2.below m;have Z:=K2.trans (Dd m);have a0:=stay m a4;have b0:=stay m a8;clear m L2 K2 a4 L1 F CA a8;obtain⟨x0,x1⟩:=cl2 a0;have z3:=Bb b0 3;simp at x0 x1 z3;go_wp2_with fail;refine(Ba HC C _ Z).mono ?_;rintro e w2 ⟨u,rfl,hu,b1⟩;obtain⟨ua,un,uc,va,vn,vc⟩:=u;have a1:Bl w1 (w2.alloc (O24 ua un uc va vn vc)):=b1.alloc b1.size _;have b5:=hu.below (show Bl w2 (w2.alloc (O24 ua un uc va vn vc)) from QN _);have L4:=L3.below a1;have K4:=Z.trans (Dd a1);have b6:=stay a1 a0;have b2:=stay a1 b0;have hj:=Ba HJ ⟨ua,un,uc,va,vn,vc⟩ _ B t _ K4 L4 b5;simp only[FrV.val]at hj;have b9:=Bc hj;have z2:=Bb b2 2;have lH:=Pk b2;simp at z2;clear b1 L3 Z a0 b0 x0 x1 z3 a1 hu b5 hj;go_wp2_with fail;refine Qm (Ba b9) ?_;rintro w3 ⟨L5,K5⟩;have c0:=K5.stay b6 Bd Bd;have K6:=K4.trans K5;clear L4 K4 K5 b6 b2;go_wp2;go_roundw
    case rel=>exact⟨q+1,_,Bd,Lt,HG,L5,K6,c0⟩
    case measure=>simp[intOf];omega
  have kb:¬(q:Int)<(f.length:Int):=Bd;have e:t=R:=by rw[<- Ba A,Bvi Bd];rfl
  subst e;clear A;go_wp2;go_end0;exact⟨rfl,L1,F⟩
def Wu (T:TI)(hi:Int)(op n nxt:Int)(RB:Option Be)(s:Bt):Bt :=
 match RB with
 | none=>s.stop
 | some y=>if Dz op=true then D9 T hi y nxt (if Dx op=true then Ie T hi y n s else s) else (if Dx op=true then Ie T hi y n s else s)
def Bk0(T:TI)(b:Int)(e:List Rd.Hnd)(c:Cd.Ins->Be->Option Be)(i:Cd.Ins)(x:Be)(s:Bt):Mj T b e c i x s=Wu T b i.op i.n (i.place+(Cd.wd i.op:Int)) (c i x) (Dy T b i.place x.locals e s):=by
 unfold Mj Wu;cases c i x<;>rfl
def Bdc{b:TW}{s:Nat}{u0 u1 u2 u3 u4 u5 u6 u7 u8 u9 u10 u11 u12 u13 u14 u15 u16 u17 u18 u19:TX}(e:u<w.heap.size)(f:s<w.heap.size)(g:j<w.heap.size)(h:w.C u 13 u0/\w.C u 14 u1/\w.C u 15 u2/\w.C u 16 u3/\w.C u 17 u4/\w.C u 18 u5/\w.C u 19 u6/\w.C u 20 u7/\w.C u 21 u8/\w.C u 22 u9/\w.C u 23 u10/\w.C u 24 u11/\w.C u 25 u12/\w.C u 26 u13/\w.C u 27 u14/\w.C s 0 u15/\w.C s 1 u16/\w.C s 2 u17/\w.C j 0 u18/\w.C j 1 u19)(c:Bl w b):b.C u 13 u0/\b.C u 14 u1/\b.C u 15 u2/\b.C u 16 u3/\b.C u 17 u4/\b.C u 18 u5/\b.C u 19 u6/\b.C u 20 u7/\b.C u 21 u8/\b.C u 22 u9/\b.C u 23 u10/\b.C u 24 u11/\b.C u 25 u12/\b.C u 26 u13/\b.C u 27 u14/\b.C s 0 u15/\b.C s 1 u16/\b.C s 2 u17/\b.C j 0 u18/\b.C j 1 u19 :=
 ⟨QC c e h.1,QC c e h.2.1,QC c e h.2.2.1,QC c e h.2.2.2.1,QC c e h.2.2.2.2.1,QC c e h.2.2.2.2.2.1,QC c e h.2.2.2.2.2.2.1,QC c e h.2.2.2.2.2.2.2.1,QC c e h.2.2.2.2.2.2.2.2.1,QC c e h.2.2.2.2.2.2.2.2.2.1,QC c e h.2.2.2.2.2.2.2.2.2.2.1,QC c e h.2.2.2.2.2.2.2.2.2.2.2.1,QC c e h.2.2.2.2.2.2.2.2.2.2.2.2.1,QC c e h.2.2.2.2.2.2.2.2.2.2.2.2.2.1,QC c e h.2.2.2.2.2.2.2.2.2.2.2.2.2.2.1,QC c f h.2.2.2.2.2.2.2.2.2.2.2.2.2.2.2.1,QC c f h.2.2.2.2.2.2.2.2.2.2.2.2.2.2.2.2.1,QC c f h.2.2.2.2.2.2.2.2.2.2.2.2.2.2.2.2.2.1,QC c g h.2.2.2.2.2.2.2.2.2.2.2.2.2.2.2.2.2.2.1,QC c g h.2.2.2.2.2.2.2.2.2.2.2.2.2.2.2.2.2.2.2⟩
def Bns(b:PBd)(S G gc:Nat)(p:Nat)(op n:Int)(s s1:Bt)(RB:Option Be)(v:FrV)(w:TW)(hl:b.T.length<=1000)(hT:∀f,Lw S G w f->Dl f b.tg b.T)(hp:p<=100000)(h:Ed w S G b gc s) (hH:∀f,Bl w f->Calls prog 220 #[.q S 0,.i (p:Int),v.val] f fun e a5=>e=.r (.tuple #[])/\Ed a5 S G b gc s1/\Lw S G f a5) (b1:∀f,Lw S G w f->Calls prog 221 #[b.val,.agg #[.i (p:Int),.i op,.i n],v.val] f fun e a5=>∃u:FrV,e=.r (.tuple #[u.val,.bool RB.isSome])/\(∀y,RB=some y->u.is y a5)/\Bl f a5):Calls prog 169 #[.q S 0,.agg #[.i (p:Int),.i op,.i n],v.val] w fun e f=>e=.r (.tuple #[])/\Ed f S G b gc (Wu b.T b.st op n ((p:Int)+(Cd.wd op:Int)) RB s1)/\Lw S G w f:=by
 have hJ:=fun u y q s' f (k:Lw S G w f) h' A=>Bei b S G gc s' u y q f hl (hT f k) h' A;have b8:=fun u y q s' f (k:Lw S G w f) h' A=>Za b S G gc s' u y q f hl (hT f k) h' A;have b9:=fun f=>W7 p op n f hp;have c0:=fun f=>Baz op f;have c1:=fun f=>Yw op f;have f7:S<w.heap.size:=Pk h.blk;have f8:G<w.heap.size:=(h.free 0).2;have d1:((p:Int)+(Cd.wd op:Int))=((p+Cd.wd op:Nat):Int):=Bd;rw[d1];generalize p+Cd.wd op=b2 at *;generalize hR:Wu b.T b.st op n (b2:Int) RB s1=R;unfold Wu at hR;generalize Dx op=J at *;generalize Dz op=GO at *;obtain⟨la,ln,lc,sa,sn,sc⟩:=v;simp only[PBd.val,FrV.val]at hH b1 ⊢;have HR:=Bc hR;have HH:=Bc hH;have b3:=Bc b1;have HJ:=Bc hJ;have d2:=Bc b8;have d3:=Bc b9;have c2:=Bc c0;have d4:=Bc c1;clear hR hH b1 hJ b8 b9 c0 c1 hT hl h;have b4:=Bx w (O15 (p:Int) op n) (O24 la ln lc sa sn sc);have I0:=Cb w (O15 (p:Int) op n) (O24 la ln lc sa sn sc);have A0:=Bv w (O15 (p:Int) op n) (O24 la ln lc sa sn sc);have F:=Bb I0 0;obtain⟨a0,a1⟩:=cl2 A0;simp at F a0 a1;go_in;go_wp2_with fail;refine Qm (Ba HH _ b4) ?_;rintro c ⟨g,K1⟩;have a6:=(Dd (S:=S) (G:=G) b4).trans K1;have a3:=K1.stay I0 Bd Bd;have a8:=K1.stay A0 Bd Bd;have B:=Pk g.blk;have m:=Pk a3;have z:=Pk a8;have r0:c.C S 13 (.s b.fa1 b.fl1 b.fc1):=(Bb g.blk 13).trans rfl;have r1:c.C S 14 (.s b.fa2 b.fl2 b.fc2):=(Bb g.blk 14).trans rfl;have r2:c.C S 15 (.s (.p b.tg) b.T.length b.tc):=(Bb g.blk 15).trans rfl;have r3:c.C S 16 (.s b.ya b.yn b.yc):=(Bb g.blk 16).trans rfl;have r4:c.C S 17 (.i b.cl):=(Bb g.blk 17).trans rfl;have r5:c.C S 18 (.i b.nm):=(Bb g.blk 18).trans rfl;have r6:c.C S 19 (.s b.pa b.pl b.pc):=(Bb g.blk 19).trans rfl;have r7:c.C S 20 (.i b.r1):=(Bb g.blk 20).trans rfl;have r8:c.C S 21 (.i b.r2):=(Bb g.blk 21).trans rfl;have r9:c.C S 22 (.i b.lo):=(Bb g.blk 22).trans rfl;have c3:c.C S 23 (.i b.st):=(Bb g.blk 23).trans rfl;have c4:c.C S 24 (.s b.ca b.cn b.cc):=(Bb g.blk 24).trans rfl;have c5:c.C S 25 (.s b.ha b.hl b.hc):=(Bb g.blk 25).trans rfl;have c6:c.C S 26 (.s b.ma b.ml b.mc):=(Bb g.blk 26).trans rfl;have c7:c.C S 27 (.s b.la b.L.length b.lc):=(Bb g.blk 27).trans rfl;have m0:c.C w.heap.size 0 (.i (p:Int)):=(Bb a3 0).trans rfl;have m1:c.C w.heap.size 1 (.i op):=(Bb a3 1).trans rfl;have m2:c.C w.heap.size 2 (.i n):=(Bb a3 2).trans rfl;have I:c.C (w.heap.size+1) 0 (.s la ln lc):=(Bb a8 0).trans rfl;have K:c.C (w.heap.size+1) 1 (.s sa sn sc):=(Bb a8 1).trans rfl;have d5:=a6;clear I0 A0 b4 K1 F a0 a1
 go_upto_region 2 with fail
 go_cut [6,7] from 8 (fun s6 s7 D=>∃(yb:Nat) (u:FrV),s6=.q yb 0/\s7=.bool RB.isSome/\D.heap[yb]?=some (O24 u.la u.ln u.lc u.sa u.sn u.sc)/\w.heap.size+1<yb/\(∀y,RB=some y->u.is y D)/\Bl c D)
 case first=>
  have a2:c.drew.C S 13 (.s b.fa1 b.fl1 b.fc1)/\c.drew.C S 14 (.s b.fa2 b.fl2 b.fc2)/\c.drew.C S 15 (.s (.p b.tg) b.T.length b.tc)/\c.drew.C S 16 (.s b.ya b.yn b.yc)/\c.drew.C S 17 (.i b.cl)/\c.drew.C S 18 (.i b.nm)/\c.drew.C S 19 (.s b.pa b.pl b.pc)/\c.drew.C S 20 (.i b.r1)/\c.drew.C S 21 (.i b.r2)/\c.drew.C S 22 (.i b.lo)/\c.drew.C S 23 (.i b.st)/\c.drew.C S 24 (.s b.ca b.cn b.cc)/\c.drew.C S 25 (.s b.ha b.hl b.hc)/\c.drew.C S 26 (.s b.ma b.ml b.mc)/\c.drew.C S 27 (.s b.la b.L.length b.lc)/\c.drew.C w.heap.size 0 (.i (p:Int))/\c.drew.C w.heap.size 1 (.i op)/\c.drew.C w.heap.size 2 (.i n)/\c.drew.C (w.heap.size+1) 0 (.s la ln lc)/\c.drew.C (w.heap.size+1) 1 (.s sa sn sc):=⟨r0,r1,r2,r3,r4,r5,r6,r7,r8,r9,c3,c4,c5,c6,c7,m0,m1,m2,I,K⟩;have a4:Bl c.drew (c.alloc (O24 none 0 0 none 0 0)).drew:=⟨rfl,rfl,rfl,(show c.heap.size<=(c.alloc (O24 none 0 0 none 0 0)).heap.size by simp),fun k hk=>(((Vm _ c).alloc (Wf _) (O24 none 0 0 none 0 0)).block k hk)⟩;have lZ:c.drew.heap.size<=(c.alloc (O24 none 0 0 none 0 0)).drew.heap.size:=a4.size;have Z0:(c.alloc (O24 none 0 0 none 0 0)).drew.heap[c.heap.size]?=some (O24 none 0 0 none 0 0):=Bf c _;have b5:Bl c c.drew:=(Vm _ _).drew;have c8:Bl c (c.alloc (O24 none 0 0 none 0 0)).drew:=b5.trans a4;replace B:S<c.drew.heap.size:=B;replace m:w.heap.size<c.drew.heap.size:=m;replace z:w.heap.size+1<c.drew.heap.size:=z;have d6:=Bc (Ba b3 c.drew (a6.trans (Dd b5)));have d7:=Bc (Ba b3 (c.alloc (O24 none 0 0 none 0 0)).drew (a6.trans (Dd c8)));go_wp2
  go_region_held3 (fun f=>f.C S 13 (.s b.fa1 b.fl1 b.fc1)/\f.C S 14 (.s b.fa2 b.fl2 b.fc2)/\f.C S 15 (.s (.p b.tg) b.T.length b.tc)/\f.C S 16 (.s b.ya b.yn b.yc)/\f.C S 17 (.i b.cl)/\f.C S 18 (.i b.nm)/\f.C S 19 (.s b.pa b.pl b.pc)/\f.C S 20 (.i b.r1)/\f.C S 21 (.i b.r2)/\f.C S 22 (.i b.lo)/\f.C S 23 (.i b.st)/\f.C S 24 (.s b.ca b.cn b.cc)/\f.C S 25 (.s b.ha b.hl b.hc)/\f.C S 26 (.s b.ma b.ml b.mc)/\f.C S 27 (.s b.la b.L.length b.lc)/\f.C w.heap.size 0 (.i (p:Int))/\f.C w.heap.size 1 (.i op)/\f.C w.heap.size 2 (.i n)/\f.C (w.heap.size+1) 0 (.s la ln lc)/\f.C (w.heap.size+1) 1 (.s sa sn sc))
   (first|(with_reducible exact a2)|(with_reducible exact Bdc B m z a2 j)|(with_reducible exact Bdc B m z a2 (j.alloc j.size _))|(with_reducible exact Bdc B m z a2 a4)|(with_reducible exact Bdc B m z a2 (a4.trans (j.mono lZ)))|(with_reducible exact Bdc B m z a2 ((a4.trans (j.mono lZ)).setCell (Wf _) _))|(with_reducible exact Bdc B m z a2 (((a4.trans (j.mono lZ)).setCell (Wf _) _).setCell (Wf _) _)))
   (first|(go_at_call 221;refine(Ba d6).mono ?_;rintro e w7 ⟨u,rfl,A,j⟩;obtain⟨N,O,Q,V,Y,vc⟩:=u;simp only[FrV.val])|(go_at_call 221;refine(Ba d7).mono ?_;rintro e w7 ⟨u,rfl,A,j⟩;obtain⟨N,O,Q,V,Y,vc⟩:=u;simp only[FrV.val];have Z7:=stay j Z0;have d8:=Bb Z7 0;have d9:=Bb Z7 1;have f9:=Bj Z7 0;have g0:=Bj Z7 1;simp at d8 d9))
  all_goals
   go_wp2
   go_meet
  ·exact⟨_,⟨N,O,Q,V,Y,vc⟩,rfl,rfl,Bf w7 _,Bvm z j.size,fun y Z=>(A y Z).below (QN _),(b5.trans j).alloc j.size _⟩
  exact⟨_,⟨N,O,Q,V,Y,vc⟩,rfl,rfl,Rp Z7 _ _,z,fun y Z=>(A y Z).set2 Z7 _ _,((QB c8 j).setCell (Wf _) _).setCell (Wf _) _⟩
 case rest=>
  obtain⟨yb,u,rfl,rfl,YB,g1,A,a9⟩:=hcut;obtain⟨N,O,Q,V,Y,vc⟩:=u;simp only at YB;have L2:=g.below a9;have K2:=a6.trans (Dd a9);have a7:=stay a9 a3;clear g a6 d5 a3 a8 B m z a9 b3 HH r0 r1 r2 r3 r4 r5 r6 r7 r8 r9 c3 c4 c5 c6 c7 m0 m1 m2 I K;have l:=Ba HR;clear HR;cases RB with
  | none =>
   simp only at l;have f0:=Bb L2.blk 29;have g2:=Bj L2.blk 29;have B:=Pk L2.blk;simp at f0;obtain⟨g4,k4⟩:=L2.stop;rw[l]at g4;clear l;go_wp2;refine tb (.tuple #[]) (by simp[results,results169,go_sem]) ?_;exact⟨rfl,g4,K2.trans k4⟩
  | some y =>
   have Z:=A y rfl;obtain⟨F,i1,i2⟩:=cl3 a7;obtain⟨I,K⟩:=cl2 YB;have m:=Pk a7;have lY:=Pk YB;simp at F i1 i2 I K;simp only at l;clear A;go_wp2_with fail;refine Qm (Ba c2 _) ?_;rintro w3 rfl
   go_upto_if 31 with fail
   go_cut [8] from 9 (fun _ D=>∃t:Bt,Hid ((if GO=true then D9 b.T b.st y (b2:Int) t else t)=R)/\Ed D S G b gc t/\Lw S G w D/\D.heap[w.heap.size]?=some (O15 (p:Int) op n)/\D.heap[yb]?=some (O24 N O Q V Y vc)/\FrV.is ⟨N,O,Q,V,Y,vc⟩ y D)
   case first=>
    cases J with
    | false =>
     simp only[Bye,Bxk]at l;have b6:=Bc l;clear l;go_wp2
     go_meet
     case rel=>exact⟨_,b6,L2,K2,a7,YB,Z⟩
    | true =>
     simp only[By3]at l;have b6:=Bc l;clear l;have hj:=Ba HJ ⟨N,O,Q,V,Y,vc⟩ y n s1 _ K2 L2 Z;simp only[FrV.val]at hj;have f1:=Bc hj;clear hj;go_wp2_with fail;refine Qm (Ba f1) ?_;rintro w4 ⟨L4,K4⟩;have f2:=K4.stay a7 Bd Bd;have f3:=K4.stay YB Bd Bd;have f4:=Z.lw K4;go_wp2
     go_meet
     case rel=>exact⟨_,b6,L4,K2.trans K4,f2,f3,f4⟩
   case rest=>
    obtain⟨t,HA,L5,K5,b7,b0,c9⟩:=hcut;clear l L2 K2 a7 YB Z F i1 i2 I K m lY HJ c2;have l:=Ba HA;obtain⟨F,i1,i2⟩:=cl3 b7;obtain⟨I,K⟩:=cl2 b0;have m:=Pk b7;have lY:=Pk b0;simp at F i1 i2 I K;clear HA;go_wp2_with fail;refine Qm (Ba d4 _) ?_;rintro w6 rfl;cases GO with
    | false =>
     simp only[Bye,Bxk]at l;subst l;go_wp2;go_end0;exact⟨rfl,L5,K5⟩
    | true =>
     simp only[By3]at l;subst l;go_wp2_with fail;refine Qm (Ba d3 _) ?_;intro w7 j;have L7:=L5.below j;have K7:=K5.trans (Dd j);have d0:=stay j b0;have f5:=c9.below j;obtain⟨z0,z1⟩:=cl2 d0;have g3:=Pk d0;simp at z0 z1;have ha:=Ba d2 ⟨N,O,Q,V,Y,vc⟩ y (b2:Int) t _ K7 L7 f5;simp only[FrV.val]at ha;have f6:=Bc ha;clear ha L5 K5 b7 b0 c9 j I K F i1 i2;go_wp2_with fail;refine Qm (Ba f6) ?_;rintro w8 ⟨L8,K8⟩;go_wp2;go_end0;exact⟨rfl,L8,K7.trans K8⟩
def Bmu(b:PBd)(S G V bb:Nat)(L:List Cd.Ins)(c:Cd.Ins->Be->Bt->Bt)(Y:Bt->Prop)(s:Bt)(w:TW)(eL:b.L=L)(d7:L.length<=100000)(h:Ed w S G b V s)(h0:Y s)(hp:∀i∈L,0<=i.place) (b6:∀j,Lw S G w j->Hs j bb (.s b.la L.length b.lc) L) (b7:∀i∈L,∀t:Bt,Y t->i.place<(t.sp.length:Int)->(t.at i.place.toNat).ri=true->Y (c i (t.at i.place.toNat).fr (t.calm i.place.toNat))) (b8:∀i∈L,∀t:Bt,Y t->i.place<(t.sp.length:Int)->(t.at i.place.toNat).ri=true->∀(v:FrV) j,Lw S G w j->Ed j S G b V (t.calm i.place.toNat)->v.is (t.at i.place.toNat).fr j->Calls prog 169 #[.q S 0,.agg #[.i i.place,.i i.op,.i i.n],v.val] j fun e b9=>e=.r (.tuple #[])/\Ed b9 S G b V (c i (t.at i.place.toNat).fr (t.calm i.place.toNat))/\Lw S G j b9):Calls prog 112 #[.q S 0] w fun e j=>e=.r (.bool ((Ct c L false s).2 && !(Ct c L false s).1.hop))/\Ed j S G b V (Ct c L false s).1/\Y (Ct c L false s).1/\Lw S G w j:=by
 generalize C:Ct c L false s=R;have I:Hid (Ct c (L.drop 0) false s=R):=C;have a0:=Bb h.blk 12;have d8:S<w.heap.size:=Pk h.blk;have d9:G<w.heap.size:=(h.free 0).2;simp at a0;rw[eL]at a0;have a1:=b6;generalize b.la=la at a0 a1;generalize b.lc=lc at a0 a1;have c7:=Bc a1;have c8:=Bc b7;have c9:=Bc b8;have HP:=Bc hp;have H0:=Bc h0;clear C b6 a1 b7 b8 hp h0 eL;go_in;go_wp2
 go_loopw [3,12] (fun s3 d0 wr=>∃(q:Nat) (t:Bt) (B:Bool),q<=L.length/\s3=.bool B/\d0=.i (q:Int)/\Hid (Ct c (L.drop q) B t=R)/\Ed wr S G b V t/\Hid (Y t)/\Lw S G w wr)
  (fun _ v _=>L.length-(intOf v).toNat)
 case atStart=>exact⟨0,s,false,Bd,rfl,rfl,I,h,H0,Btl _ _ _⟩
 case round=>
  clear I h H0 a0;obtain⟨q,t,B,hq,rfl,rfl,I,D,Z,K1⟩:=hrel;have f0:=K1.size;by_cases b1:q<L.length
  ·obtain⟨g,hg,f1,_,a2⟩:=Cf (Ba c7 _ K1) Bd;obtain⟨t1,t2,t3,t4⟩:=W4 L q b1;have y0:=(a2 (q*3) Bd).trans t1;have y1:=(a2 (q*3+1) Bd).trans t2;have y2:=(a2 (q*3+2) Bd).trans t3;have b2:=Bvh b1;have f:L.drop q=L[q]::L.drop (q+1):=Wr b1;have C:=Ba I;rw[f,Ct]at C;have d2:=Ba HP _ b2;have a3:=Ba c8 _ b2 t (Ba Z);have a4:=Ba c9 _ b2 t (Ba Z);generalize L[q]=d3 at *;obtain⟨ip,op,n⟩:=d3;simp only at y0 y1 y2 C d2 a3 a4;obtain⟨p,rfl⟩:∃p:Nat,ip=(p:Int):=⟨ip.toNat,Bd⟩;simp only[Bvn]at C a3 a4;subst hg;have kb:(q:Int)<(L.length:Int):=Bd;have b3:Bl wr (wr.alloc (O15 (p:Int) op n)):=QN _;have F:=D.below b3;have K2:=K1.trans (Dd b3);have a5:=Bf wr (O15 (p:Int) op n);have c3:=Bc a3;have c4:=Bc a4;have a6:=Bc C;have f2:=D.len;have f4:=D.cap;clear a3 a4 C f a2 I t1 t2 t3 t4 b3;have l:=Bb a5 0;have m:=Bb F.blk 28;have lS:=Pk F.blk;have J:=Pk a5;simp at l m;by_cases c1:t.sp.length<=p
   ·have d1:decide (t.sp.length<=p)=true:=Bxp c1;have a7:(t.sp.length:Int)<=(p:Int):=Bd;have HG:Hid (Ct c (L.drop (q+1)) B t=R):=by unfold Hid;rw[<- Ba a6,Sp (.inl a7)]
    go_wp2;go_quiet (fail);rename_i nq;have z:Bl (wr.alloc (O15 (p:Int) op n)) ((wr.alloc (O15 (p:Int) op n)).drewN nq):=Cy (Vm _ _);have A:=F.below z;have K3:=K2.trans (Dd z);go_wp2;go_roundw
    case rel=>exact⟨q+1,t,B,Bd,rfl,Lt,HG,A,Z,K3⟩
    case measure=>simp[intOf];omega
   have d1:decide (t.sp.length<=p)=false:=Bwx c1;have kp:(p:Int)<(t.sp.length:Int):=Bd;obtain⟨u,K,N,O,z2,z3,z4⟩:=F.at (i:=p) Bd;obtain⟨ua,un,uc,va,vn,vc⟩:=u;simp only at N O;have lG:=(F.free 0).2;cases Q:(t.at p).ri with
   | false =>
    have HG:Hid (Ct c (L.drop (q+1)) B t=R):=by unfold Hid;rw[<- Ba a6,Sp (.inr Q)]
    rw[Q]at z3;go_wp2;go_quiet (fail);rename_i nq;have z:Bl (wr.alloc (O15 (p:Int) op n)) ((wr.alloc (O15 (p:Int) op n)).drewN nq):=Cy (Vm _ _);have A:=F.below z;have K3:=K2.trans (Dd z);go_wp2;go_roundw
    case rel=>exact⟨q+1,t,B,Bd,rfl,Lt,HG,A,Z,K3⟩
    case measure=>simp[intOf];omega
   | true =>
    have HG:Hid (Ct c (L.drop (q+1)) true (c ⟨(p:Int),op,n⟩ (t.at p).fr (t.calm p))=R):=by unfold Hid;rw[<- Ba a6,Pf (fun h=>h.elim (fun h=>Bd) (fun h=>by rw[Q]at h;cases h))]
    have d4:=Bc (Ba c3 kp Q);have c5:=Bc (Ba c4 kp Q);rw[Q]at z3;go_wp2;go_quiet (fail);rename_i nq;have z:Bl (wr.alloc (O15 (p:Int) op n)) ((wr.alloc (O15 (p:Int) op n)).drewN nq):=Cy (Vm _ _);have A:=F.below z;have K3:=K2.trans (Dd z);have a8:=stay z a5;clear F K2 a5 z l m N O z2 z3 z4 K lS J lG c3 c4 a6 D K1;go_wp2;generalize (wr.alloc (O15 (p:Int) op n)).drewN nq=w3 at *;have l:=Bb a8 0;have m:=Bb A.blk 28;have lS:=Pk A.blk;have J:=Pk a8;obtain⟨u,K,N,O,z2,z3,z4⟩:=A.at (i:=p) Bd;obtain⟨f3,lG⟩:=A.free (p*5+3);rw[Q]at z3;simp at l m;obtain⟨g4,k4⟩:=A.ri (q:=p) Bd false
    go_region
    have f:Bl (w3.setCell (.a G (p*5+3)) (.bool false)) (w3.setCell (.a G (p*5+3)) (.bool false)).drew:=(Vm _ _).drew;have b4:=k4.trans (Dd f);have L4:Ed (w3.setCell (.a G (p*5+3)) (.bool false)).drew S G b V (t.calm p):=g4.below f;have K4:=K3.trans b4;have a9:=b4.stay a8 Bd Bd;clear A K3 a8 l m lS J u K N O z2 z3 z4 f3 lG g4 k4 b4 f;generalize (w3.setCell (.a G (p*5+3)) (.bool false)).drew=w4 at *;have l:=Bb a9 0;have m:=Bb L4.blk 28;have lS:=Pk L4.blk;have J:=Pk a9;have ec:(t.calm p).sp.length=t.sp.length:=by simp[Bt.calm]
    obtain⟨u,K,N,O,-,-,-⟩:=L4.at (i:=p) Bd;have ef:((t.calm p).at p).fr=(t.at p).fr:=by unfold Bt.calm;rw[Xq t p _ Bd,Sp rfl]
    rw[ef]at K;rw[Bx6 Fr]at m;simp only[ec]at m;obtain⟨ua,un,uc,va,vn,vc⟩:=u;obtain⟨-,lG⟩:=L4.free 0;simp at l m N O;go_wp2
    go_region
    have f:Bl w4 (w4.alloc (O24 ua un uc va vn vc)).drew:=(QN _).drew;have L5:=L4.below f;have K5:=K4.trans (Dd f);have b5:=stay f a9;have b0:(w4.alloc (O24 ua un uc va vn vc)).drew.heap[w4.heap.size]?=some (O24 ua un uc va vn vc):=Bf w4 _;have c6:=K.below f;clear L4 K4 a9 l m lS J K N O lG f ec ef;generalize (w4.alloc (O24 ua un uc va vn vc)).drew=w5 at *;have hl:=Ba c5 ⟨ua,un,uc,va,vn,vc⟩ w5 K5 L5 c6;simp only[FrV.val]at hl;have d5:=Bc hl;obtain⟨l,i1,i2⟩:=cl3 b5;have c0:=Bb b0 0;have a7:=Bb b0 1;have J:=Pk b5;have lC:=Pk b0;simp at l i1 i2 c0 a7;clear hl c5;go_wp2_with fail;refine Qm (Ba d5) ?_;rintro w6 ⟨L6,K6⟩;have K7:=K5.trans K6;clear L5 K5 K6 b5 b0 c6 l i1 i2 c0 a7 J lC;go_wp2;go_roundw
    case rel=>exact⟨q+1,_,true,Bd,rfl,Lt,HG,L6,d4,K7⟩
    case measure=>simp[intOf];omega
  have kb:¬(q:Int)<(L.length:Int):=Bd;have e:(t,B)=R:=by rw[<- Ba I,Bvi Bd];rfl
  subst e;clear I;have d6:=Bb D.blk 29;have lS:=Pk D.blk;simp at d6;cases B with
  | false =>
   go_wp2;go_ret;exact⟨rfl,D,Ba Z,K1⟩
  | true =>
   go_wp2;go_ret;exact⟨Fr,D,Ba Z,K1⟩
def Sz (w:TW)(b:Nat)(v:TX)(l:List (Rd.Mp × Value × Value)):Prop :=
 w.ownsRow b 266 3 v l.length (Mn l)/\∀p∈l,TyR w p.2.1 p.1.locals/\TyR w p.2.2 p.1.stack
def Sz.below{b:TW}{i:TX}{l:List (Rd.Mp×Value×Value)}(h:Sz w u i l)(c:Bl w b):Sz b u i l :=
 ⟨Cx h.1 (Kp.of_below (e:=none) c) Ck,fun p f=>⟨(h.2 p f).1.below c,(h.2 p f).2.below c⟩⟩
def Bij(k:Nat)(p:Od):∀(l:List Od),Fp k (l++[p])=Fp k l++Fp (k+l.length) [p]:=by
 intro l
 induction l generalizing k with
 | nil=>rfl
 | cons x r ih =>
  simp only[Bws,Fp,ih,Bvo];rw[show k+1+r.length=k+(r.length+1) by omega]
  split<;>rfl
def Bii(s:Bt)(k:Nat)(b:k<s.sp.length):Fp 0 (s.sp.take (k+1))=Fp 0 (s.sp.take k)++(if (s.at k).wa=true then [⟨(k:Int),(s.at k).fr.locals,(s.at k).fr.stack⟩] else []):=by
 have e:s.sp.take (k+1)=s.sp.take k++[s.at k]:=by
  rw[Bvs b];unfold Bt.at;rw[Th,Ws b];rfl
 rw[e,Bij,Bxf,Bvp,Bx5 Bd];rfl
def Bnr(b:PBd)(S G gc:Nat)(s:Bt)(w:TW)(h:Ed w S G b gc s):Calls prog 113 #[.q S 0] w fun e w'=>∃a n c f,e=.r (.s a n c)/\f.map Prod.fst=Fp 0 s.sp/\Sz w' w.heap.size (.s a n c) f/\Bl w w':=by
 obtain⟨i0,V,a9,b0,b1⟩:=Bv4 Tryz.infoMap;have a1:=Bb h.blk 28;have lS:=Pk h.blk;have F:=(h.free 0).2;have b6:=h.len;have b7:=h.cap;simp at a1;have a2:=fun i V=>h.at (i:=i) V;generalize hR:Fp 0 s.sp=R;have HR:=Bc hR;have b2:=Bc a2;clear h hR a2;go_in;go_wp2
 go_loopw [3,11] (fun v i wr=>∃(k:Nat) (f:List (Rd.Mp×Value×Value)),k<=s.sp.length/\i=.i (k:Int)/\f.length<=k/\Hid (f.map Prod.fst=Fp 0 (s.sp.take k))/\wr.ownsRow w.heap.size 266 3 v f.length (Mn f)/\Hid (∀p∈f,TyR w p.2.1 p.1.locals/\TyR w p.2.2 p.1.stack)/\Bl w wr)
  (fun _ i _=>s.sp.length-(intOf i).toNat)
 case atStart=>exact⟨0,[],Bd,rfl,Wf _,rfl,Bvl _ _ _ _,(fun p l=>by simp at l),Vm _ _⟩
 case round=>
  clear a1;obtain⟨k,f,hk,rfl,b8,Y,I,L,g⟩:=hrel;have a3:=g.size;obtain⟨ma,mc,rfl⟩:=Bg I;by_cases a4:k<s.sp.length
  ·obtain⟨u,D,Z,z1,z2,z3,z4⟩:=Ba b2 k a4;obtain⟨m,t,z,A,B,vc⟩:=u;have N:=Bii s k a4;have a5:=D.lo;have a6:=D.st;simp only at Z z1 a5 a6;replace Z:=(g.cell (p:=.a G (k*5)) F).trans Z;replace z1:=(g.cell (p:=.a G (k*5+1)) F).trans z1;replace z2:=(g.cell (p:=.a G (k*5+2)) F).trans z2;replace z3:=(g.cell (p:=.a G (k*5+3)) F).trans z3;replace z4:=(g.cell (p:=.a G (k*5+4)) F).trans z4;clear D;generalize (s.at k).wa=wa at *;generalize (s.at k).st=O at *;generalize (s.at k).ri=Q at *;generalize (s.at k).fr=C at *;have kb:(k:Int)<(s.sp.length:Int):=Bd;have b9:G<wr.heap.size:=Bd
   cases wa with
   | false =>
    have a0:Hid (f.map Prod.fst=Fp 0 (s.sp.take (k+1))):=by unfold Hid;rw[Ba Y,N];simp
    have J:=g.alloc a3 (O28 m t z A B vc O Q false);have K:=I.alloc (O28 m t z A B vc O Q false);clear N;go_wp2;go_roundw
    case rel=>exact⟨k+1,f,Bd,Lt,Bd,a0,K,L,J⟩
    case measure=>simp[intOf];omega
   | true =>
    have a0:Hid ((f++[((⟨(k:Int),C.locals,C.stack⟩:Rd.Mp),Value.slice m t z,Value.slice A B vc)]).map Prod.fst=Fp 0 (s.sp.take (k+1))):=by unfold Hid;rw[Bvx,Ba Y,N];simp
    have b3:Hid (∀p∈f++[((⟨(k:Int),C.locals,C.stack⟩:Rd.Mp),Value.slice m t z,Value.slice A B vc)],TyR w p.2.1 p.1.locals/\TyR w p.2.2 p.1.stack):=fun p l=>by
     rcases List.mem_append.1 l with l|l
     ·exact Ba L p l
     rw[List.mem_singleton.1 l];exact⟨a5,a6⟩
    have J:=g.alloc a3 (O28 m t z A B vc O Q true);have K:=I.alloc (O28 m t z A B vc O Q true);clear N;go_wp2_with (at_builtin;refine Bvw _ rfl _ _ 131 rfl w.heap.size 266 i0 _ 3 56 underlying131 V a9 b0 b1 rfl Ck _ _ _ rfl (K.alloc _) ⟨wr.heap.size+1,0,none⟩ 1 1 [.i (k:Int),.s m t z,.s A B vc] rfl rfl ?c1 ?c2 ?c3 ?c4 ?c5 ?_)
    case c1=>exact Dv _ _ _ _ Fr
    case c2=>intro u D;simp at D;rcases D with rfl|rfl|rfl<;>rfl
    case c3=>unfold maxLen;omega
    case c4=>omega
    case c5=>simp;omega
    intro v' w5 a7 a8 _;have b4:=(J.alloc J.size (O17 (k:Int) m t z A B vc)).grown a8 Fm (fun j hj=>(K.lt j hj).1);have b5:w5.ownsRow w.heap.size 266 3 v' (f++[((⟨(k:Int),C.locals,C.stack⟩:Rd.Mp),Value.slice m t z,Value.slice A B vc)]).length (Mn (f++[((⟨(k:Int),C.locals,C.stack⟩:Rd.Mp),Value.slice m t z,Value.slice A B vc)])):=by rw[Xj,Up];exact a7
    clear a8 I K a7 g J;go_wp2;go_roundw
    case rel=>exact⟨k+1,_,Bd,Lt,Fm,a0,b5,b3,b4⟩
    case measure=>simp[intOf];omega
  have kb:¬(k:Int)<(s.sp.length:Int):=Bd;have e:f.map Prod.fst=R:=by rw[Ba Y,Bv0 Bd,Ba HR]
  have HE:=Bc e;clear e;go_wp2;go_ret;exact⟨_,_,_,rfl,f,Ba HE,⟨I,fun p l=>⟨(Ba L p l).1.below g,(Ba L p l).2.below g⟩⟩,g⟩
def Tryz.infoSpot:(prog.info? 260).map (fun i=>(i.zero,i.size,i.bytes))=some (some (.agg #[.s none 0 0,.s none 0 0,.bool false,.bool false,.bool false]),5,56):=Le
def Dg (n:Nat):Array Value:=madeCells (Value.agg #[.slice none 0 0,.slice none 0 0,.bool false,.bool false,.bool false]).cells (n*5)
def Bqb(n:Nat)(h:n<=1000)(w:TW):(Instr.makeSlice 185 (.i (n:Int)) (.i (n:Int))).run prog w=.ok (.s (.p w.heap.size) n n) (w.alloc (.cells (Dg n) 260)):=by
 obtain⟨b,c,e,f,g⟩:=Bv4 Tryz.infoSpot;have:=run_make w 185 260 b _ underlying185 c e .i64 .i64 (n:Int) (n:Int) Bd (Byo _) (by rw[g];omega) Bd;rw[f]at this;simpa[Dg] using this
def Bsn(n:Nat):(Dg n).size=n*5:=by simp[Dg,madeCells]
def Bce(n i j:Nat)(f:i<n)(g:j<5):(Dg n)[i*5+j]?=(#[.s none 0 0,.s none 0 0,.bool false,.bool false,.bool false]:Array Value)[j]?:=by
 have b:i*5+j<n*5:=Bd;have c:(i*5+j)%5=j:=Bd;unfold Dg madeCells;have e:j=0\/j=1\/j=2\/j=3\/j=4:=Bd;rcases e with rfl|rfl|rfl|rfl|rfl
 all_goals
  simp only[Value.cells,Array.getElem?_map];rw[Bx6 (by simpa using b)];simp[c]
def Ed.made{S s:Nat}{n:Nat}(f:w.heap[S]?=some (O27 (.p b.tg) b.T.length b.tc b.ya b.yn b.yc b.cl b.nm b.pa b.pl b.pc b.r1 b.r2 b.lo b.st b.ca b.cn b.cc b.ha b.hl b.hc b.ma b.ml b.mc b.la b.L.length b.lc b.fa1 b.fl1 b.fc1 b.fa2 b.fl2 b.fc2 (.p b.tg) b.T.length b.tc b.ya b.yn b.yc b.cl b.nm b.pa b.pl b.pc b.r1 b.r2 b.lo b.st b.ca b.cn b.cc b.ha b.hl b.hc b.ma b.ml b.mc b.la b.L.length b.lc (.p s) n n false))(g:w.heap[s]?=some (.cells (Dg n) 260 (0,0)))(h:S≠s)(j:n<=1000):Ed w S s b n ⟨List.replicate n Jz,false⟩:=by
 refine⟨by simpa using f,⟨_,g,by simpa using Bsn n,fun i l=>?_⟩,h,by simpa using j,Fm⟩;have c:i<n:=by simpa using l
 have e:(⟨List.replicate n Jz,false⟩:Bt).at i=Jz:=by
  unfold Bt.at;rw[Th,By4,Sp c];rfl
 rw[e];exact⟨⟨none,0,0,none,0,0⟩,⟨Bce n i 0 c Bd,Bce n i 1 c Bd,Bce n i 2 c Bd,Bce n i 3 c Bd,Bce n i 4 c Bd⟩,⟨TyR.nil _,TyR.nil _,Bv5 _,Bv5 _⟩⟩
end Go.Proofs.YtpcgnjolfahacaaGreat
