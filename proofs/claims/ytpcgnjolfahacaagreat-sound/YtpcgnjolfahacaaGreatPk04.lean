/- the proof's parts -/
import Derived.Test.YtpcgnjolfahacaaGreatPk03
set_option maxRecDepth 100000
set_option maxHeartbeats 40000000
set_option linter.unusedVariables false
set_option linter.unusedSimpArgs false
set_option linter.defProp false
namespace Go.Proofs.YtpcgnjolfahacaaGreat
open Go.RowKit Go.Proofs.Tryz
variable{A:List (Int×List Int)}{j u:Nat}{z:TI}{e:TV}{w:TW}{g:TypeId}
structure Bh where
 meth:Int
 pos:Nat
 next:Nat
 lo:List Int
 st:List Int
 h:Nat
def Iz:List Int:=[0,0,0,0,0,0,0,0]
def En (v:Int)(c:Bh):Bh:=if 8<=c.h then c else ⟨c.meth,c.pos,c.next,c.lo,c.st.set c.h v,c.h+1⟩
def Bw (c:Bh):Int × Bh:=if c.h=0 then (0,c) else (c.st.getD (c.h-1) 0,⟨c.meth,c.pos,c.next,c.lo,c.st,c.h-1⟩)
def D6:Nat->Bh->List Int × Bh
 | 0,c=>([],c)
 | k+1,c=>((D6 k (Bw c).2).1++[(Bw c).1],(D6 k (Bw c).2).2)
def Wq (n:Int)(c:Bh):Int:=if n<0 then 0 else if 8<=n then 0 else c.lo.getD n.toNat 0
def Ff (n v:Int)(c:Bh):Bh:=if n<0 then c else if 8<=n then c else ⟨c.meth,c.pos,c.next,c.lo.set n.toNat v,c.st,c.h⟩
def P4 (o:Int)(t:Nat)(c:Bh):Bh:=⟨c.meth,c.pos,t,c.lo,c.st.set 0 o,1⟩
def La:Nat->TI->Bh->Bh
 | _,[],c=>c
 | i,v::r,c=>La (i+1) r (Ff (i:Int) v c)
def Cn (m:Int)(vs:TI):Bh:=La 0 vs ⟨m,0,0,Iz,Iz,0⟩
def Nw (b:Int):Int:=if 127<b then b-256 else b
def Gn (v:Int):Int:=(v+2147483648) % 4294967296-2147483648
def Iu (op x y:Int):Option Int :=
 if op=7 then some (Gn (Gn x+Gn y)) else if op=8 then some (Gn (Gn x-Gn y)) else if op=9 then some (Gn (Gn x*Gn y))
 else if Gn y=0 then none else some (Gn ((Gn x).tdiv (Gn y)))
def J9 (op n:Int)(c:Bh):Bh :=
 if op=0 then En (Nw n) c
 else if op=1 then En 0 c
 else if op=2 then En (Wq n c) c
 else if op=3 then Ff n (Bw c).1 (Bw c).2
 else if op=4 then (Bw c).2
 else if op=5 then En (Bw c).1 (En (Bw c).1 (Bw c).2)
 else if op=6 then En (Bw (Bw c).2).1 (En (Bw c).1 (Bw (Bw c).2).2)
 else c
def Lu (t:Nat)(c:Bh):Bh:=⟨c.meth,c.pos,t,c.lo,c.st,c.h⟩
def Hm (op n:Int)(c:Bh):Bh :=
 if op=12 then (if (Bw c).1=0 then Lu n.toNat (Bw c).2 else (Bw c).2)
 else if op=13 then (if (Bw (Bw c).2).1<(Bw c).1 then Lu n.toNat (Bw (Bw c).2).2 else (Bw (Bw c).2).2)
 else if op=14 then (if (Bw c).1=0 then Lu n.toNat (Bw c).2 else (Bw c).2)
 else Lu n.toNat c
structure Ds where
 T:List Int
 FL:List (List (Int × Int))
 ms:List Rd.Mth
 ins:List Int
 room:Int
 depth:Int
structure Bo where
 read:Nat
 objs:List (Int × List Int)
 now:Bh
 wait:List Bh
 ended:Bool
 out:List Int
 status:Int
 value:Int
 steps:Nat
def Bo.withNow(S:Bo)(c:Bh):Bo:=⟨S.read,S.objs,c,S.wait,S.ended,S.out,S.status,S.value,S.steps⟩
def Bo.withObjs(S:Bo)(l:List (Int × List Int)):Bo:=⟨S.read,l,S.now,S.wait,S.ended,S.out,S.status,S.value,S.steps⟩
def Bo.opened(S:Bo)(c:Bh):Bo:=⟨S.read,S.objs,c,S.wait++[S.now],S.ended,S.out,S.status,S.value,S.steps⟩
def Bo.fin(S:Bo)(st v:Int):Bo:=⟨S.read,S.objs,S.now,S.wait,true,S.out,st,v,S.steps⟩
def Bo.push(S:Bo)(v:Int):Bo:=S.withNow (En v S.now)
def Bo.popped(S:Bo):Bo:=S.withNow (Bw S.now).2
def Bo.top(S:Bo):Int:=(Bw S.now).1
def Eu:Rd.Mth:=⟨0,0,[],(0,0),0,0,[],[],[]⟩
def Ds.meth(E:Ds)(n:Int):Rd.Mth:=if n<0 then Eu else if (E.ms.length:Int)<=n then Eu else E.ms.getD n.toNat Eu
def Nl (r:Int)(l:List (Int × List Int)):Bool:=decide (1<=r)&&decide (r<=(l.length:Int))
def Mv (r:Int)(l:List (Int × List Int)):Int × List Int:=l.getD (r-1).toNat (0,[])
def Id (r:Int)(l:List (Int × List Int)):Int:=if Nl r l=true then (Mv r l).1 else 0
def Jm (r s:Int)(l:List (Int × List Int)):Bool:=Nl r l&&(decide (0<=s)&&decide (s<((Mv r l).2.length:Int)))
def Vr (r s:Int)(l:List (Int × List Int)):Int:=if Jm r s l=true then (Mv r l).2.getD s.toNat 0 else 0
def Tt (r s v:Int)(l:List (Int × List Int)):List (Int × List Int):=if Jm r s l=true then l.set (r-1).toNat ((Mv r l).1,(Mv r l).2.set s.toNat v) else l
def Tq (r:Int)(fs:TI)(l:List (Int × List Int)):List (Int × List Int):=if Nl r l=true then l.set (r-1).toNat ((Mv r l).1,fs) else l
def Je (T:TI)(FL:List (List (Int × Int)))(n:Int):Int :=
 if (Ec n FL 0 0).1 = -1 then -1 else ((Dq T FL (Ec n FL 0 0).1).length:Int)-((Nh FL (Ec n FL 0 0).1).length:Int)+(Ec n FL 0 0).2
def Hy (T:TI)(cl:Int)(pos:Nat):List Rd.Hnd->Option Nat
 | []=>none
 | h::r=>if (El h (pos:Int)&&Tr.within T cl h.cl)=true then some h.target.toNat else Hy T cl pos r
def Ds.target(E:Ds)(cl:Int)(c:Bh):Option Nat:=Hy E.T cl c.pos (E.meth c.meth).handlers
def Jx (E:Ds)(o cl:Int):Nat->Bo->Bo
 | 0,S=>S
 | k+1,S=>match E.target cl S.now with
  | some t=>S.withNow (P4 o t S.now)
  | none=>match S.wait.getLast? with
   | none=>S.fin 2 cl
   | some c=>Jx E o cl k ⟨S.read,S.objs,c,S.wait.dropLast,S.ended,S.out,S.status,S.value,S.steps⟩
def M8 (E:Ds)(o:Int)(S:Bo):Bo:=Jx E o (Id o S.objs) (S.wait.length+1) S
def Fw (E:Ds)(cl:Int)(S:Bo):Bo:=M8 E (cl-2+1) S
def Hz (E:Ds)(m:Int)(vs:TI)(S:Bo):Bo :=
 if E.depth<=(S.wait.length:Int)+1 then Fw E 6 S else S.opened (Cn m vs)
def Gj (k:Nat)(S:Bo):Bo:=S.withNow (D6 k S.now).2
def I8 (k:Nat)(S:Bo):List Int:=(D6 k S.now).1
def Vs (E:Ds)(n:Int)(S:Bo):Bo:=Hz E n (I8 (E.meth n).params.length S) (Gj (E.meth n).params.length S)
def Hl (T:TI)(cl name:Int):List Rd.Mth->Int->Int->Int->Int
 | [],_,found,_=>found
 | m::r,i,found,high=>if (m.name==name&&(decide (high<=m.cl)&&Tr.within T cl m.cl))=true then Hl T cl name r (i+1) i m.cl else Hl T cl name r (i+1) found high
def Ds.nearest(E:Ds)(cl name:Int):Int:=Hl E.T cl name E.ms 0 0 0
def Pm (E:Ds)(name o:Int)(vs:TI)(S:Bo):Bo :=
 if o=0 then Fw E 3 S else Hz E (E.nearest (Id o S.objs) name) (o::vs) S
def Sj (E:Ds)(n:Int)(S:Bo):Bo :=
 Pm E (E.meth n).name (Gj (E.meth n).params.length S).top (I8 (E.meth n).params.length S) (Gj (E.meth n).params.length S).popped
def Lq (res:Int × Int)(v:Int)(S:Bo):Bo:=match S.wait.getLast? with
 | none=>S.fin 0 (if res.1=1 then v else 0)
 | some c=>⟨S.read,S.objs,(if res.1=0 then c else En v c),S.wait.dropLast,S.ended,S.out,S.status,S.value,S.steps⟩
def Ki (E:Ds)(S:Bo):Bo :=
 if (E.meth S.now.meth).result.1=0 then Lq (E.meth S.now.meth).result 0 S else Lq (E.meth S.now.meth).result S.top S.popped
def Jw (E:Ds)(S:Bo):Bo:=if S.top=0 then Fw E 3 S.popped else M8 E S.top S.popped
def Ta (E:Ds)(S:Bo):Bo :=
 if S.read<E.ins.length then (⟨S.read+1,S.objs,S.now,S.wait,S.ended,S.out,S.status,S.value,S.steps⟩:Bo).push (E.ins.getD S.read 0) else S.push 0
def Yb (S:Bo):Bo:=⟨S.read,S.objs,(Bw S.now).2,S.wait,S.ended,S.out++[S.top],S.status,S.value,S.steps⟩
def Nx (E:Ds)(op:Int)(S:Bo):Bo:=match Iu op S.popped.top S.top with
 | none=>Fw E 2 S.popped.popped
 | some z=>S.popped.popped.push z
def Ny (E:Ds)(cl:Int)(S:Bo):Bo :=
 if E.room<=(S.objs.length:Int)-5 then Fw E 5 S else (S.withObjs (S.objs++[(cl,[])])).push ((S.objs.length:Int)+1)
def Nk (E:Ds)(cl:Int)(S:Bo):Bo :=
 (Gj (Dq E.T E.FL cl).length S).popped.withObjs (Tq (Gj (Dq E.T E.FL cl).length S).top (I8 (Dq E.T E.FL cl).length S) S.objs)
def Lp (E:Ds)(n:Int)(S:Bo):Bo:=if S.top=0 then Fw E 3 S.popped else S.popped.push (Vr S.top (Je E.T E.FL n) S.objs)
def Lo (E:Ds)(n:Int)(S:Bo):Bo :=
 if S.popped.top=0 then Fw E 3 S.popped.popped else S.popped.popped.withObjs (Tt S.popped.top (Je E.T E.FL n) S.top S.objs)
def Sk (E:Ds)(cl:Int)(S:Bo):Bo :=
 if S.top=0 then S.popped.push S.top else if Tr.within E.T (Id S.top S.objs) cl=true then S.popped.push S.top else Fw E 4 S.popped
def Ci (E:Ds)(op n:Int)(S:Bo):Bo :=
 if op<=6 then S.withNow (J9 op n S.now)
 else if op<=10 then Nx E op S
 else if op<=14 then S.withNow (Hm op n S.now)
 else if op=15 then Ny E n S
 else if op=16 then Nk E n S
 else if op=17 then Lp E n S
 else if op=18 then Lo E n S
 else if op=19 then Sk E n S
 else if op=20 then Vs E n S
 else if op=21 then Sj E n S
 else if op=22 then Ki E S
 else if op=23 then Jw E S
 else if op=24 then Ta E S
 else if op=25 then Yb S
 else S
def Fy (E:Ds)(c:Bh):Cd.Ins:=Cd.orZero (Cd.one (E.meth c.meth).code c.next)
def Oc (E:Ds)(S:Bo):Bo :=
 ⟨S.read,S.objs,⟨S.now.meth,S.now.next,(Fy E S.now).place.toNat+Cd.wd (Fy E S.now).op,S.now.lo,S.now.st,S.now.h⟩,S.wait,S.ended,S.out,S.status,S.value,S.steps+1⟩
def Hh (E:Ds)(S:Bo):Bo:=Ci E (Fy E S.now).op (Fy E S.now).n (Oc E S)
def P8 (E:Ds)(fuel:Nat):Nat->Bo->Bo
 | 0,S=>S
 | k+1,S=>if S.ended=true then S else if fuel<=S.steps then S.fin 1 0 else P8 E fuel k (Hh E S)
def Gv (entry:Int):Bo:=⟨0,[(2,[]),(3,[]),(4,[]),(5,[]),(6,[])],Cn entry [],[],false,[],0,0,0⟩
def Rj (E:Ds)(fuel:Nat)(entry:Int):Bo:=P8 E fuel (fuel+2) (Gv entry)
structure Bjv(S R:Bo):Prop where
 steps:R.steps=S.steps
 out:R.out=S.out\/∃v,R.out=S.out++[v]
 fin:S.ended=false->R.ended=true->R.status=0\/R.status=2
structure Cp(S R:Bo):Prop where
 steps:R.steps=S.steps
 out:R.out=S.out
 fin:S.ended=false->R.ended=true->R.status=0\/R.status=2
def Cp.mild{S R:Bo}(h:Cp S R):Bjv S R:=⟨h.steps,.inl h.out,h.fin⟩
def Cp.refl(S:Bo):Cp S S:=⟨rfl,rfl,fun c b=>by rw[c]at b;cases b⟩
def Cp.same{S R:Bo}(c:R.steps=S.steps)(e:R.out=S.out)(f:R.ended=S.ended):Cp S R:=⟨c,e,fun a b=>by rw[f,a]at b;cases b⟩
def Cp.then{S R Q:Bo}(c:R.steps=S.steps)(e:R.out=S.out)(f:R.ended=S.ended)(h:Cp R Q):Cp S Q :=
 ⟨h.steps.trans c,h.out.trans e,fun a b=>h.fin (f.trans a) b⟩
def Baj(E:Ds)(o b:Int):∀(k:Nat) (S:Bo),Cp S (Jx E o b k S)
 | 0,S=>Cp.refl S
 | k+1,S=>by
  unfold Jx;cases E.target b S.now with
  | some t=>exact Cp.same rfl rfl rfl
  | none =>
   cases S.wait.getLast? with
   | none=>exact⟨rfl,rfl,fun _ _=>.inr rfl⟩
   | some c=>exact Cp.then (R:=⟨S.read,S.objs,c,S.wait.dropLast,S.ended,S.out,S.status,S.value,S.steps⟩) rfl rfl rfl (Baj E o b k _)
def Bbx(E:Ds)(o:Int)(S:Bo):Cp S (M8 E o S):=Baj _ _ _ _ _
def Mo(E:Ds)(b:Int)(S:Bo):Cp S (Fw E b S):=Bbx _ _ _
def Zj(E:Ds)(m:Int)(b:TI)(S:Bo):Cp S (Hz E m b S):=by
 unfold Hz
 split
 ·exact Mo _ _ _
 exact Cp.same rfl rfl rfl
def Ba7(r:Int×Int)(v:Int)(S:Bo):Cp S (Lq r v S):=by
 unfold Lq;cases S.wait.getLast? with
 | none=>exact⟨rfl,rfl,fun _ _=>.inl rfl⟩
 | some c=>exact Cp.same rfl rfl rfl
def Brh(E:Ds)(op n:Int)(S:Bo):Bjv S (Ci E op n S):=by
 unfold Ci;by_cases c:op<=6;·rw[Sp c];exact Cp.mild (Cp.same rfl rfl rfl)
 rw[Pf c];by_cases e:op<=10
 ·rw[Sp e];unfold Nx;cases Iu op S.popped.top S.top with
  | none=>exact Cp.mild (Cp.then (R:=S.popped.popped) rfl rfl rfl (Mo _ _ _))
  | some z=>exact Cp.mild (Cp.same rfl rfl rfl)
 rw[Pf e];by_cases f:op<=14;·rw[Sp f];exact Cp.mild (Cp.same rfl rfl rfl)
 rw[Pf f];by_cases g:op=15
 ·rw[Sp g];unfold Ny
  split
  ·exact Cp.mild (Mo _ _ _)
  exact Cp.mild (Cp.same rfl rfl rfl)
 rw[Pf g];by_cases h:op=16;·rw[Sp h];exact Cp.mild (Cp.same rfl rfl rfl)
 rw[Pf h];by_cases i:op=17
 ·rw[Sp i];unfold Lp
  split
  ·exact Cp.mild (Cp.then (R:=S.popped) rfl rfl rfl (Mo _ _ _))
  exact Cp.mild (Cp.same rfl rfl rfl)
 rw[Pf i];by_cases j:op=18
 ·rw[Sp j];unfold Lo
  split
  ·exact Cp.mild (Cp.then (R:=S.popped.popped) rfl rfl rfl (Mo _ _ _))
  exact Cp.mild (Cp.same rfl rfl rfl)
 rw[Pf j];by_cases l:op=19
 ·rw[Sp l];unfold Sk
  split
  ·exact Cp.mild (Cp.same rfl rfl rfl)
  split
  ·exact Cp.mild (Cp.same rfl rfl rfl)
  exact Cp.mild (Cp.then (R:=S.popped) rfl rfl rfl (Mo _ _ _))
 rw[Pf l];by_cases m:op=20;·rw[Sp m];exact Cp.mild (Cp.then (R:=Gj (E.meth n).params.length S) rfl rfl rfl (Zj _ _ _ _))
 rw[Pf m];by_cases p:op=21
 ·rw[Sp p];refine Cp.mild (Cp.then (R:=(Gj (E.meth n).params.length S).popped) rfl rfl rfl ?_);unfold Sj Pm
  split
  ·exact Mo _ _ _
  exact Zj _ _ _ _
 rw[Pf p];by_cases q:op=22
 ·rw[Sp q];unfold Ki
  split
  ·exact Cp.mild (Ba7 _ _ _)
  exact Cp.mild (Cp.then (R:=S.popped) rfl rfl rfl (Ba7 _ _ _))
 rw[Pf q];by_cases s:op=23
 ·rw[Sp s];unfold Jw
  split
  ·exact Cp.mild (Cp.then (R:=S.popped) rfl rfl rfl (Mo _ _ _))
  exact Cp.mild (Cp.then (R:=S.popped) rfl rfl rfl (Bbx _ _ _))
 rw[Pf s];by_cases t:op=24
 ·rw[Sp t];unfold Ta
  split
  ·exact Cp.mild (Cp.same rfl rfl rfl)
  exact Cp.mild (Cp.same rfl rfl rfl)
 rw[Pf t];by_cases v:op=25;·rw[Sp v];exact⟨rfl,.inr ⟨_,rfl⟩,fun a b=>by rw[show (Yb S).ended=S.ended from rfl,a]at b;cases b⟩
 rw[Pf v];exact Cp.mild (Cp.refl S)
def Um(E:Ds)(S:Bo):(Hh E S).steps=S.steps+1/\((Hh E S).out=S.out\/∃v,(Hh E S).out=S.out++[v])/\(S.ended=false->(Hh E S).ended=true->(Hh E S).status=0\/(Hh E S).status=2):=by
 have h:=Brh E (Fy E S.now).op (Fy E S.now).n (Oc E S);exact⟨h.steps,h.out,h.fin⟩
def Ji (E:Ds):Nat->Bo->Bo
 | 0,S=>S
 | k+1,S=>if S.ended=true then S else Ji E k (Hh E S)
def Pn (R:Bo):Bo:=if R.ended=true then R else R.fin 1 0
def Ah(E:Ds)(k:Nat){S:Bo}(h:S.ended=true):Ji E k S=S:=by cases k<;>simp[Ji,h]
def Bny(E:Ds):∀(a b:Nat) (S:Bo),Ji E (a+b) S=Ji E b (Ji E a S)
 | 0,b,S=>by rw[Bvp];rfl
 | a+1,b,S=>by
  rw[show a+1+b=a+b+1 by omega,Ji,Ji];by_cases h:S.ended=true;·rw[Sp h,Sp h,Ah E b h]
  rw[Pf h,Pf h,Bny E a b]
def Bjh(E:Ds)(f:Nat):∀(d k:Nat) (S:Bo),S.steps+d=f->d+2<=k->P8 E f k S=Pn (Ji E d S)
 | d,0,S,_,hk=>Bd
 | d,k+1,S,hd,hk=>by
  unfold P8;by_cases h:S.ended=true;·rw[Sp h,Ah E d h];unfold Pn;rw[Sp h]
  rw[Pf h];cases d with
  | zero=>rw[Sp Bd];unfold Pn;rw[Ji,Pf h]
  | succ e =>
   rw[Pf Bd,Ji,Pf h];exact Bjh E f e k _ (by rw[(Um E S).1];omega) Bd
def Bmo(E:Ds)(f:Nat)(b:Int):Rj E f b=Pn (Ji E f (Gv b)):=by
 have:(Gv b).steps=0:=rfl;exact Bjh E f f (f+2) _ (by rw[this];omega) Bd
structure Btk(k:Nat)(S R:Bo):Prop where
 le:R.steps<=S.steps+k
 ge:S.steps<=R.steps
 on:R.ended=false->R.steps=S.steps+k
 out:∃l,R.out=S.out++l/\S.steps+l.length<=R.steps
 fin:S.ended=false->R.ended=true->(R.status=0\/R.status=2)/\S.steps<R.steps
def Bdd(E:Ds):∀(k:Nat) (S:Bo),Btk k S (Ji E k S)
 | 0,S=>⟨Wf _,Wf _,fun _=>rfl,⟨[],by simp[Ji],by simp[Ji]⟩,fun a b=>by rw[show Ji E 0 S=S from rfl,a]at b;cases b⟩
 | k+1,S=>by
  unfold Ji;by_cases h:S.ended=true;·rw[Sp h];exact⟨Bd,Wf _,fun a=>(by rw[a]at h;cases h),⟨[],Fr,Fr⟩,fun a=>(by rw[a]at h;cases h)⟩
  rw[Pf h];have i:S.ended=false:=by simpa using h
  obtain⟨p,j,m⟩:=Um E S;have g:=Bdd E k (Hh E S);have q:=g.le;have s:=g.ge;refine⟨Bd,Bd,fun a=>by have:=g.on a;omega,?_,fun _ b=>⟨?_,Bd⟩⟩
  ·obtain⟨l,f,t⟩:=g.out;rcases j with e|⟨v,e⟩
   ·exact⟨l,by rw[f,e],Bd⟩
   exact⟨v::l,by rw[f,e];simp,by simp only[Bvo];omega⟩
  by_cases c:(Hh E S).ended=true;·rw[Ah E k c];exact m i c
  exact(g.fin (by simpa using c) b).1
def further(E:Ds)(f d:Nat)(c:Int)(A B:Bo)(e:Rj E f c=A)(i:Rj E (f+d) c=B):A.steps<=f/\B.steps<=f+d/\A.steps<=B.steps/\A.out.length<=A.steps/\((A.status=1/\(∃l,B.out=A.out++l)/\A.steps=f/\A.value=0)\/(A=B/\0<A.steps/\(A.status=0\/A.status=2))):=by
 rw[Bmo]at e i;rw[Bny]at i;have g:=Bdd E f (Gv c);have g2:=Bdd E d (Ji E f (Gv c));have z:(Gv c).steps=0:=rfl;have m:(Gv c).out=[]:=rfl;have p:(Gv c).ended=false:=rfl;generalize Ji E f (Gv c)=R at *;have v:=g.le;have C:=g2.le;have D:=g.ge;have F:=g2.ge;obtain⟨l,j,G⟩:=g.out;rw[m,Bx4]at j;unfold Pn at e i;by_cases h:R.ended=true;·rw[Sp h]at e;subst e;rw[Ah E d h,Sp h]at i;subst i;obtain⟨a,b⟩:=g.fin p h;exact⟨Bd,Bd,Bd,by rw[j];omega,.inr ⟨rfl,Bd,a⟩⟩
 rw[Pf h]at e;subst e;have I:R.steps=0+f:=by have:=g.on (by simpa using h);omega
 obtain⟨q,s,J⟩:=g2.out;have t:B.steps=(Ji E d R).steps/\B.out=(Ji E d R).out:=by
  rw[<- i];split<;>exact⟨rfl,rfl⟩
 refine⟨by show R.steps<=f;omega,Bd,by show R.steps<=B.steps;omega,by show R.out.length<=R.steps;rw[j];omega,.inl ⟨rfl,⟨q,?_⟩,by show R.steps=f;omega,rfl⟩⟩;rw[t.2,s];rfl
def Mid (w:TW)(B:Nat)(t:TypeId)(pre mid post:TV):Prop:=w.heap[B]?=some (.cells (pre++(mid++post)).toArray t (0,0))
def Mid.cell{o:Nat}{T b:TV}(h:Mid w u g e T b)(f:e.length=o)(c:j<T.length):w.cell? (.a u (o+j))=T[j]?:=by
 rw[Bb h,Byh,Bvt Bd,show o+j-e.length=j by omega,Bvy c]
def Mid.free{T b:TV}(h:Mid w u g e T b)(j:Nat):w.frozen? (.a u j)=false:=Bj h j
def Mid.set{o:Nat}{T c:TV}(h:Mid w u g e T c)(i:e.length=o)(f:j<T.length)(b:TX):Mid (w.setCell (.a u (o+j)) b) u g e (T.set j b) c:=by
 unfold Mid at h ⊢;rw[Bq h]
 congr 2
 rw[Bzw,Bw1 _ _ Bd,show o+j-e.length=j by omega,Bx7 _ _ f]
def Mid.range{o:Nat}{T c:TV}(h:Mid w u g e T c)(f:e.length=o):w.rangeAt u o T:=fun j v b=>by
 rw[h.cell f (List.getElem?_eq_some_iff.1 b).1];exact b
def Mid.there{o n:Nat}{T b:TV}(h:Mid w u g e T b)(c:e.length=o)(f:T.length=n):w.there u o n:=fun j i=>by
 refine⟨?_,h.free _⟩;rw[h.cell c Bd,Ws Bd];rfl
def Mid.lt{T b:TV}(h:Mid w u g e T b):u<w.heap.size:=Pk h
def Mid.below{b:TW}{T c:TV}(h:Mid w u g e T c)(f:Bl w b):Mid b u g e T c:=by
 unfold Mid;rw[f.block u h.lt];exact h
def Mid.alloc{T b:TV}(h:Mid w u g e T b)(x:Obj):Mid (w.alloc x) u g e T b:=by
 unfold Mid;rw[Bvu w x u h.lt];exact h
def Mid.drewN{T b:TV}(h:Mid w u g e T b)(n:Nat):Mid (w.drewN n) u g e T b:=h
def So:∀(f b e c:TV) (w:TW),e.length=f.length->Mid w u g b e c->Mid (w.setCells u b.length f) u g b f c
 | [],b,e,c,w,hl,h=>by
  obtain rfl:e=[]:=Bwc (by simpa using hl);exact h
 | v::r,b,[],c,w,hl,h=>by simp at hl
 | v::r,b,x::q,c,w,hl,h=>by
  rw[World.setCells];have l:Mid (w.setCell (.a u b.length) v) u g b (v::q) c:=h.set (o:=b.length) (j:=0) rfl Fr v;have m:Mid (w.setCell (.a u b.length) v) u g (b++[v]) q c:=by
   unfold Mid at l ⊢;rw[l];simp
  have i:=So r (b++[v]) q c _ (by simpa using hl) m;rw[Up,Bw0]at i;unfold Mid at i ⊢;rw[i];simp
def Gr.setB{s:Nat}{a b:TW}(h:Gr u a b)(c:TX):Gr u a (b.setCell (.a u s) c):=h.set (.inr rfl) c
def T7(B:Nat):∀(b:TV) (o:Nat) (w:TW),Gr B w (w.setCells B o b)
 | [],_,w=>Gr.refl B w
 | v::r,o,w=>by
  rw[World.setCells];exact((Gr.refl B w).set (.inr rfl) v).trans (T7 B r (o+1) _)
def Bh.cells(c:Bh):List Value:=.int .i64 c.meth :: .int .i64 (c.pos:Int) :: .int .i64 (c.next:Int)::(c.lo.map (Value.int .i64)++(c.st.map (Value.int .i64)++[.int .i64 (c.h:Int)]))
structure Em(c:Bh):Prop where
 lo:c.lo.length=8
 st:c.st.length=8
 h:c.h<=8
def Em.len{c:Bh}(h:Em c):c.cells.length=20:=by simp[Bh.cells,h.lo,h.st]
def Ph(c:Bh):∀v∈c.cells,v.oneCell'=true:=by
 intro v b;simp only[Bh.cells,Bxy,Bwt,List.mem_map,Bx9,Bz2]at b;rcases b with rfl|rfl|rfl|⟨x,_,rfl⟩|⟨x,_,rfl⟩|rfl<;>rfl
def Bq9{c:Bh}(b:Em c){k:Nat}(e:k<8):c.cells[3+k]?=some (.i (c.lo.getD k 0)):=by
 have h:=b.lo;rw[Bh.cells,show 3+k=k+1+1+1 by omega,Bwi,Bwi,Bwi,Bvy Fm,Bv8,Th,Ws Bd];rfl
def Bq8{c:Bh}(b:Em c){k:Nat}(e:k<8):c.cells[11+k]?=some (.i (c.st.getD k 0)):=by
 have h:=b.lo;have f:=b.st;rw[Bh.cells,show 11+k=8+k+1+1+1 by omega,Bwi,Bwi,Bwi,Bvt Fm,Bvr,h,show 8+k-8=k by omega,
  Bvy Fm,Bv8,Th,Ws Bd]
 rfl
def Bs6{c:Bh}(b:Em c):c.cells[19]?=some (.i (c.h:Int)):=by
 have h:=b.lo;have e:=b.st;rw[Bh.cells,Bwi,Bwi,Bwi,Bvt Fm,Bvr,h,Bvt Fm,Bvr,e];rfl
def Biw{c:Bh}(b:Em c){k:Nat}(e:k<8)(v:Int):c.cells.set (3+k) (.i v)=(⟨c.meth,c.pos,c.next,c.lo.set k v,c.st,c.h⟩:Bh).cells:=by
 have h:=b.lo;rw[Bh.cells,show 3+k=k+1+1+1 by omega,Bwf,Bwf,Bwf,Bx7 _ _ Fm,<- Byj];rfl
def Biv{c:Bh}(b:Em c){k:Nat}(e:k<8)(v:Int):c.cells.set (11+k) (.i v)=(⟨c.meth,c.pos,c.next,c.lo,c.st.set k v,c.h⟩:Bh).cells:=by
 have h:=b.lo;have f:=b.st;rw[Bh.cells,show 11+k=8+k+1+1+1 by omega,Bwf,Bwf,Bwf,Bw1 _ _ Fm,Bvr,h,show 8+k-8=k by omega,
  Bx7 _ _ Fm,<- Byj]
 rfl
def Blh{c:Bh}(b:Em c)(n:Nat):c.cells.set 19 (.i (n:Int))=(⟨c.meth,c.pos,c.next,c.lo,c.st,n⟩:Bh).cells:=by
 have h:=b.lo;have e:=b.st;rw[Bh.cells,Bwf,Bwf,Bwf,Bw1 _ _ Fm,Bvr,h,Bw1 _ _ Fm,Bvr,e];rfl
structure Brr(w:World)(B o:Nat)(c:Bh):Prop where
 m:w.cell? ⟨B,o,none⟩=some (.int .i64 c.meth)
 p:w.cell? ⟨B,o+1,none⟩=some (.int .i64 (c.pos:Int))
 n:w.cell? ⟨B,o+2,none⟩=some (.int .i64 (c.next:Int))
 h:w.cell? ⟨B,o+19,none⟩=some (.int .i64 (c.h:Int))
 lo:∀k,k<8->w.cell? ⟨B,o+3+k,none⟩=some (.int .i64 (c.lo.getD k 0))
 st:∀k,k<8->w.cell? ⟨B,o+11+k,none⟩=some (.int .i64 (c.st.getD k 0))
 fr:∀j,w.frozen? ⟨B,j,none⟩=false
def Mid.sees{o:Nat}{T:TV}{c:Bh}(h:Mid w u g e c.cells T)(b:e.length=o)(f:Em c):Brr w u o c:=by
 have l:=f.len;refine⟨?_,?_,?_,?_,fun k i=>?_,fun k i=>?_,fun j=>h.free j⟩
 ·have:=h.cell b (j:=0) Bd;rw[Bzg]at this;rw[this];rfl
 ·rw[h.cell b (j:=1) Bd];rfl
 ·rw[h.cell b (j:=2) Bd];rfl
 ·rw[h.cell b (j:=19) Bd];exact Bs6 f
 ·rw[Byc,h.cell b (j:=3+k) Bd];exact Bq9 f i
 rw[Byc,h.cell b (j:=11+k) Bd];exact Bq8 f i
def Mid.setLo{o k:Nat}{T:TV}{c:Bh}(h:Mid w u g e c.cells T)(f:e.length=o)(b:Em c)(j:k<8)(v:Int):Mid (w.setCell (.a u (o+3+k)) (.i v)) u g e (⟨c.meth,c.pos,c.next,c.lo.set k v,c.st,c.h⟩:Bh).cells T:=by
 have l:=b.len;rw[<- Biw b j,Byc];exact h.set f Bd _
def Mid.setSt{o k:Nat}{T:TV}{c:Bh}(h:Mid w u g e c.cells T)(f:e.length=o)(b:Em c)(j:k<8)(v:Int):Mid (w.setCell (.a u (o+11+k)) (.i v)) u g e (⟨c.meth,c.pos,c.next,c.lo,c.st.set k v,c.h⟩:Bh).cells T:=by
 have l:=b.len;rw[<- Biv b j,Byc];exact h.set f Bd _
def Mid.setH{o:Nat}{T:TV}{c:Bh}(h:Mid w u g e c.cells T)(f:e.length=o)(b:Em c)(z:Int)(n:Nat)(j:z=n):Mid (w.setCell (.a u (o+19)) (.i z)) u g e (⟨c.meth,c.pos,c.next,c.lo,c.st,n⟩:Bh).cells T:=by
 have l:=b.len;rw[<- Blh b,j];exact h.set f Bd _
def Mid.setP{o:Nat}{T:TV}{c:Bh}(h:Mid w u g e c.cells T)(b:e.length=o)(n:Nat):Mid (w.setCell (.a u (o+1)) (.i (n:Int))) u g e (⟨c.meth,n,c.next,c.lo,c.st,c.h⟩:Bh).cells T:=h.set b (j:=1) (by simp[Bh.cells]) _
def Mid.setN{o:Nat}{T:TV}{c:Bh}(h:Mid w u g e c.cells T)(b:e.length=o)(n:Nat):Mid (w.setCell (.a u (o+2)) (.i (n:Int))) u g e (⟨c.meth,c.pos,n,c.lo,c.st,c.h⟩:Bh).cells T:=h.set b (j:=2) (by simp[Bh.cells]) _
def Md{c:Bh}(h:Em c)(v:Int):Em (En v c):=by
 unfold En
 split
 ·exact h
 exact⟨h.lo,by simp[h.st],by have:=h.h;simp;omega⟩
def Fu{c:Bh}(h:Em c):Em (Bw c).2:=by
 unfold Bw
 split
 ·exact h
 exact⟨h.lo,h.st,by have:=h.h;simp;omega⟩
def Wz{c:Bh}(h:Em c)(n v:Int):Em (Ff n v c):=by
 unfold Ff
 split
 ·exact h
 split
 ·exact h
 exact⟨by simp[h.lo],h.st,h.h⟩
def Bae{c:Bh}(h:Em c)(n:Nat):Em (Lu n c):=⟨h.lo,h.st,h.h⟩
def Br4{c:Bh}(h:Em c)(v:Int)(n:Nat):Em (P4 v n c):=⟨h.lo,by simp[P4,h.st],by simp[P4]⟩
def Bc6:∀(k:Nat) {c:Bh},Em c->Em (D6 k c).2
 | 0,_,h=>h
 | k+1,_,h=>Bc6 k (Fu h)
def Vz:∀(k:Nat) (c:Bh),(D6 k c).1.length=k
 | 0,_=>rfl
 | k+1,c=>by simp[D6,Vz k]
def Bjo:∀(l:TI) (i:Nat) {c:Bh},Em c->Em (La i l c)
 | [],_,_,h=>h
 | v::r,i,_,h=>Bjo r (i+1) (Wz h i v)
def Bi2(m:Int):Em ⟨m,0,0,Iz,Iz,0⟩:=⟨rfl,rfl,Fr⟩
def Sq(m:Int)(b:TI):Em (Cn m b):=Bjo b 0 (Bi2 m)
def Bsi{c:Bh}(h:Em c)(op n:Int):Em (J9 op n c):=by
 unfold J9;by_cases b:op=0;·rw[Sp b];exact Md h _
 rw[Pf b];by_cases e:op=1;·rw[Sp e];exact Md h _
 rw[Pf e];by_cases f:op=2;·rw[Sp f];exact Md h _
 rw[Pf f];by_cases g:op=3;·rw[Sp g];exact Wz (Fu h) _ _
 rw[Pf g];by_cases i:op=4;·rw[Sp i];exact Fu h
 rw[Pf i];by_cases j:op=5;·rw[Sp j];exact Md (Md (Fu h) _) _
 rw[Pf j];by_cases l:op=6;·rw[Sp l];exact Md (Md (Fu (Fu h)) _) _
 rw[Pf l];exact h
def Boo{c:Bh}(h:Em c)(op n:Int):Em (Hm op n c):=by
 unfold Hm;by_cases b:op=12
 ·rw[Sp b]
  split
  ·exact Bae (Fu h) _
  exact Fu h
 rw[Pf b];by_cases e:op=13
 ·rw[Sp e]
  split
  ·exact Bae (Fu (Fu h)) _
  exact Fu (Fu h)
 rw[Pf e];by_cases f:op=14
 ·rw[Sp f]
  split
  ·exact Bae (Fu h) _
  exact Fu h
 rw[Pf f];exact Bae h _
def Mm(c:Bh)(v:Int)(B o:Nat)(t:TypeId)(g m:TV)(w:TW)(j:g.length=o)(b:Em c)(h:Mid w B t g c.cells m):Calls prog 238 #[.q B o,.i v] w fun e p=>e=.r (.tuple #[])/\Mid p B t g (En v c).cells m/\Gr B w p:=by
 obtain⟨s,z,A,J,C,l,f⟩:=h.sees j b;have K:=b.h;have L:¬(c.h:Int)<0:=Bd;have N:=f (o+19);unfold En;by_cases D:8<=c.h;·rw[Sp D];have G:(8:Int)<=(c.h:Int):=Bd;clear s z A C l f;go_in;go_wp2;refine tb (.tuple #[]) (by simp[results,results238,go_sem]) ?_;exact⟨rfl,h,Gr.refl _ _⟩
 rw[Pf D];have G:¬(8:Int)<=(c.h:Int):=Bd;have g2:c.h<8:=Bd;have O:=l c.h g2;have Q:=f (o+11+c.h);have F:=h.setSt j b g2 v;have I:=F.setH j ⟨b.lo,by simp[b.st],b.h⟩ ((c.h:Int)+1) (c.h+1) Fr;clear s z A C l f F;go_in;go_wp2
 go_region
 all_goals
  go_wp2;go_end0;exact⟨rfl,I.drewN _,(((Gr.refl _ _).setB _).setB _).drew⟩
def Jp(c:Bh)(B o:Nat)(t:TypeId)(f m:TV)(w:TW)(p:f.length=o)(g:Em c)(h:Mid w B t f c.cells m):Calls prog 240 #[.q B o] w fun e s=>e=.r (.i (Bw c).1)/\Mid s B t f (Bw c).2.cells m/\Gr B w s:=by
 obtain⟨v,z,A,j,C,b,l⟩:=h.sees p g;have D:=g.h;have I:=l (o+19);obtain⟨J,K,cn,L,N,F⟩:=c;unfold Bw;simp only at j D b ⊢;cases F with
 | zero =>
  rw[Sp rfl];clear v z A C b l;simp at j;go_in;go_wp2;go_ret;exact⟨rfl,h,Gr.refl _ _⟩
 | succ k =>
  rw[Pf Fr];have g2:k<8:=Bd;have O:=b k g2;have G:=h.setH p g (k:Int) k rfl;have e:k+1-1=k:=rfl;rw[e];clear e v z A C b l;simp at j;go_in;go_wp2;go_quiet (fail);go_wp2;go_ret;exact⟨rfl,G.drewN _,((Gr.refl _ _).setB _).drewN _⟩
def Bks(c:Bh)(n:Int)(B o:Nat)(t:TypeId)(s A:TV)(w:TW)(C:s.length=o)(D:Em c)(h:Mid w B t s c.cells A):Calls prog 239 #[.q B o,.i n] w fun e F=>e=.r (.i (Wq n c))/\F=w:=by
 obtain⟨f,g,j,l,b,m,p⟩:=h.sees C D;unfold Wq;by_cases v:n<0;·rw[Sp v];clear f g j l b m p;go_in;go_wp2;go_ret;exact⟨rfl,rfl⟩
 rw[Pf v];by_cases z:8<=n;·rw[Sp z];clear f g j l b m p;go_in;go_wp2;go_ret;exact⟨rfl,rfl⟩
 rw[Pf z];obtain⟨k,rfl⟩:=Bvk (show 0<=n by omega);have G:=b k Bd;rw[Bvn];clear f g j l b m p;go_in;go_wp2;go_ret;exact⟨rfl,rfl⟩
def Zk(c:Bh)(n v:Int)(B o:Nat)(t:TypeId)(g z:TV)(w:TW)(A:g.length=o)(C:Em c)(h:Mid w B t g c.cells z):Calls prog 130 #[.q B o,.i n,.i v] w fun e D=>e=.r (.tuple #[])/\Mid D B t g (Ff n v c).cells z/\Gr B w D:=by
 obtain⟨j,l,m,p,b,s,f⟩:=h.sees A C;unfold Ff;by_cases F:n<0;·rw[Sp F];clear j l m p b s f;go_in;go_wp2;go_end0;exact⟨rfl,h,Gr.refl _ _⟩
 rw[Pf F];by_cases G:8<=n;·rw[Sp G];clear j l m p b s f;go_in;go_wp2;go_end0;exact⟨rfl,h,Gr.refl _ _⟩
 rw[Pf G];obtain⟨k,rfl⟩:=Bvk (show 0<=n by omega);have J:=b k Bd;have K:=f (o+3+k);have I:=h.setLo A C (k:=k) Bd v;rw[Bvn];clear j l m p b s f;go_in;go_wp2;go_end0;exact⟨rfl,I,(Gr.refl _ _).setB _⟩
def Bm7(c:Bh)(v:Int)(n:Nat)(B o:Nat)(t:TypeId)(g l:TV)(w:TW)(b:g.length=o)(j:Em c)(h:Mid w B t g c.cells l):Calls prog 286 #[.q B o,.i v,.i (n:Int)] w fun e A=>e=.r (.tuple #[])/\Mid A B t g (P4 v n c).cells l/\Gr B w A:=by
 obtain⟨m,p,C,O,s,z,f⟩:=h.sees b j;have Q:=f (o+19);have I:=h.setH b j 0 0 rfl;have D:Em ⟨c.meth,c.pos,c.next,c.lo,c.st,0⟩:=⟨j.lo,j.st,Fr⟩
 have F:=Mm _ v B o t g l _ b D I;have J:=Bc F;clear F m p C s z f;go_in;go_wp2_with fail;refine Qm (Ba J) ?_;rintro V ⟨G,K⟩;obtain⟨m,p,C,L,s,z,f⟩:=G.sees b (Md D v);have Y:=f (o+2);have N:=G.setN b n;clear m p L s z f;go_wp2;go_end0;exact⟨rfl,N,(((Gr.refl _ _).setB _).trans K).setB _⟩
def Bkc(n:Int)(w:TW)(c:0<=n)(f:n<=255):Calls prog 237 #[.i n] w fun e b=>e=.r (.i (Nw n))/\b=w:=by
 unfold Nw;by_cases h:127<n;·rw[Sp h];go_in;go_wp2;go_ret;exact⟨rfl,rfl⟩
 rw[Pf h];go_in;go_wp2;go_ret;exact⟨rfl,rfl⟩
def Td(v:Int):wrap32 v=Gn v:=by unfold Gn wrap32;omega
def Yk(v:Int):wrap64 (Gn v)=Gn v:=by unfold Gn wrap64;omega
def Bff(op x y:Int)(w:TW):Calls prog 241 #[.i op,.i x,.i y] w fun e h=>e=.r (.tuple #[.i ((Iu op x y).getD 0),.bool (Iu op x y).isSome])/\h=w:=by
 unfold Iu;by_cases b:op=7;·rw[Sp b];subst b;go_in;go_wp2;go_ret2;exact⟨by simp[Yk,Td],rfl⟩
 rw[Pf b];by_cases c:op=8;·rw[Sp c];subst c;clear b;go_in;go_wp2;go_ret2;exact⟨by simp[Yk,Td],rfl⟩
 rw[Pf c];by_cases f:op=9;·rw[Sp f];subst f;clear b c;go_in;go_wp2;go_ret2;exact⟨by simp[Yk,Td],rfl⟩
 rw[Pf f];have j:(op==7)=false:=by simp[b]
 have l:(op==8)=false:=by simp[c]
 have m:(op==9)=false:=by simp[f]
 clear b c f;by_cases g:Gn y=0;·rw[Sp g];rw[<- Td]at g;go_in;go_wp2;go_ret2;exact⟨rfl,rfl⟩
 rw[Pf g];rw[<- Td]at g;have p:(wrap32 y==0)=false:=by simp[g]
 go_in;go_wp2;go_ret2;exact⟨by simp[Yk,Td],rfl⟩
def Bne(c:Bh)(p op n:Int)(B o:Nat)(t:TypeId)(b f:TV)(w:TW)(g:b.length=o)(j:Em c)(h:Mid w B t b c.cells f)(z:0<=op/\op<=6)(N:0<=n/\n<=255):Calls prog 188 #[.q B o,.agg #[.i p,.i op,.i n]] w fun e K=>e=.r (.tuple #[])/\Mid K B t b (J9 op n c).cells f/\Gr B w K:=by
 obtain⟨O,Q⟩:=N;have a1:=h.lt;rcases(show op=0\/op=1\/op=2\/op=3\/op=4\/op=5\/op=6 by omega) with rfl|rfl|rfl|rfl|rfl|rfl|rfl
 ·have F:=fun w=>Bkc n w O Q;have m:=Mm c (Nw n) B o t b f _ g j (h.alloc (O15 p 0 n));have e:J9 0 n c=En (Nw n) c:=rfl;rw[e];clear z e;go_in;go_wp2_with (first|(go_at_call 237;refine(F _).mono ?_;rintro e v ⟨rfl,rfl⟩)|(go_at_call 238;refine m.mono ?_;rintro e v ⟨rfl,s,l⟩))
  go_end0;exact⟨rfl,s,((Gr.refl _ _).alloc _).trans l⟩
 ·have m:=Mm c 0 B o t b f _ g j (h.alloc (O15 p 1 n));have e:J9 1 n c=En 0 c:=rfl;rw[e];clear z e;go_in;go_wp2_with (go_at_call 238;refine m.mono ?_;rintro e v ⟨rfl,s,l⟩)
  go_end0;exact⟨rfl,s,((Gr.refl _ _).alloc _).trans l⟩
 ·have F:=Bks c n B o t b f _ g j (h.alloc (O15 p 2 n));have m:=Mm c (Wq n c) B o t b f _ g j (h.alloc (O15 p 2 n));have e:J9 2 n c=En (Wq n c) c:=rfl;rw[e];clear z e;go_in;go_wp2_with (first|(go_at_call 239;refine F.mono ?_;rintro e v ⟨rfl,rfl⟩)|(go_at_call 238;refine m.mono ?_;rintro e v ⟨rfl,s,l⟩))
  go_end0;exact⟨rfl,s,((Gr.refl _ _).alloc _).trans l⟩
 ·have m:=Jp c B o t b f _ g j (h.alloc (O15 p 3 n));have A:=fun w h=>Zk (Bw c).2 n (Bw c).1 B o t b f w g (Fu j) h;have e:J9 3 n c=Ff n (Bw c).1 (Bw c).2:=rfl;rw[e];have V:=Bf w (O15 p 3 n);clear z e;go_in;go_wp2_with fail;refine Qm m ?_;rintro v ⟨s,l⟩;have Y:=l.own V Bd;have Z:=Bb Y 2;simp at Z;go_wp2_with fail;refine Qm (A _ s) ?_;rintro L ⟨C,D⟩;go_wp2;go_end0;exact⟨rfl,C,(((Gr.refl _ _).alloc _).trans l).trans D⟩
 ·have m:=Jp c B o t b f _ g j (h.alloc (O15 p 4 n));have e:J9 4 n c=(Bw c).2:=rfl;rw[e];clear z e;go_in;go_wp2_with fail;refine Qm m ?_;rintro v ⟨s,l⟩;go_wp2;go_end0;exact⟨rfl,s,((Gr.refl _ _).alloc _).trans l⟩
 ·have m:=Jp c B o t b f _ g j (h.alloc (O15 p 5 n));have A:=fun w h=>Mm (Bw c).2 (Bw c).1 B o t b f w g (Fu j) h;have G:=fun w h=>Mm (En (Bw c).1 (Bw c).2) (Bw c).1 B o t b f w g (Md (Fu j) _) h;have e:J9 5 n c=En (Bw c).1 (En (Bw c).1 (Bw c).2):=rfl;rw[e];clear z e;go_in;go_wp2_with fail;refine Qm m ?_;rintro v ⟨s,l⟩;go_wp2_with fail;refine Qm (A _ s) ?_;rintro L ⟨C,D⟩;go_wp2_with fail;refine Qm (G _ C) ?_;rintro w3 ⟨I,J⟩;go_wp2;go_end0;exact⟨rfl,I,((((Gr.refl _ _).alloc _).trans l).trans D).trans J⟩
 have m:=Jp c B o t b f _ g j (h.alloc (O15 p 6 n));have hQ:=fun w h=>Jp (Bw c).2 B o t b f w g (Fu j) h;have A:=fun w h=>Mm (Bw (Bw c).2).2 (Bw c).1 B o t b f w g (Fu (Fu j)) h;have G:=fun w h=>Mm (En (Bw c).1 (Bw (Bw c).2).2) (Bw (Bw c).2).1 B o t b f w g (Md (Fu (Fu j)) _) h;have e:J9 6 n c=En (Bw (Bw c).2).1 (En (Bw c).1 (Bw (Bw c).2).2):=rfl;rw[e];clear z e;go_in;go_wp2_with fail;refine Qm m ?_;rintro v ⟨s,l⟩;go_wp2_with fail;refine Qm (hQ _ s) ?_;rintro L ⟨C,D⟩;go_wp2_with fail;refine Qm (A _ C) ?_;rintro w3 ⟨I,J⟩;go_wp2_with fail;refine Qm (G _ I) ?_;rintro w4 ⟨h4,a0⟩;go_wp2;go_end0;exact⟨rfl,h4,(((((Gr.refl _ _).alloc _).trans l).trans D).trans J).trans a0⟩
def Bih(c:Bh)(p op n:Int)(B o:Nat)(t:TypeId)(v K:TV)(w:TW)(j:v.length=o)(z:Em c)(h:Mid w B t v c.cells K)(V:11<=op/\op<=14)(hn:0<=n):Calls prog 190 #[.q B o,.agg #[.i p,.i op,.i n]] w fun e w'=>e=.r (.tuple #[])/\Mid w' B t v (Hm op n c).cells K/\Gr B w w':=by
 have a3:=h.lt;obtain⟨k,rfl⟩:=Bvk hn;have A:∀op:Int,(w.alloc (O15 p op (k:Int))).heap[w.heap.size]?=_:=fun op=>Bf w (O15 p op (k:Int));rcases(show op=11\/op=12\/op=13\/op=14 by omega) with rfl|rfl|rfl|rfl
 ·have e:Hm 11 k c=Lu k c:=rfl;rw[e];have b:=h.alloc (O15 p 11 (k:Int));obtain⟨C,D,s2,F,G,I,l⟩:=h.sees j z;have f2:=l (o+2);have J:=(h.setN j k).alloc (O15 p 11 (k:Int));clear V e C D F G I l A;go_in;go_wp2;go_end0;exact⟨rfl,J,((Gr.refl _ _).setB _).alloc _⟩
 ·have m:=Jp c B o t v K _ j z (h.alloc (O15 p 12 (k:Int)));have L:=A 12;have s:=Fu z;have e:Hm 12 k c=if (Bw c).1=0 then Lu k (Bw c).2 else (Bw c).2:=rfl
  rw[e];clear e;generalize Bw c=r at *;obtain⟨x,c1⟩:=r;simp only at m s ⊢;clear V A;by_cases f:x=0;·rw[Sp f];subst f;go_in;go_wp2_with fail;refine Qm m ?_;rintro N ⟨b,g⟩;have O:=g.own L Bd;have Q:=Bb O 2;simp at Q;obtain⟨C,D,s2,F,G,I,l⟩:=b.sees j s;have f2:=l (o+2);have J:=b.setN j k;clear C D F G I l;go_wp2;go_end0;exact⟨rfl,J,(((Gr.refl _ _).alloc _).trans g).setB _⟩
  rw[Pf f];have a2:(x==0)=false:=by simp[f]
  clear f;go_in;go_wp2_with fail;refine Qm m ?_;rintro N ⟨b,g⟩;go_wp2;go_end0;exact⟨rfl,b,((Gr.refl _ _).alloc _).trans g⟩
 ·have m:=Jp c B o t v K _ j z (h.alloc (O15 p 13 (k:Int)));have L:=A 13;have s:=Fu z;have Y:=fun w h=>Jp (Bw c).2 B o t v K w j s h;have a1:=Fu s;have e:Hm 13 k c=if (Bw (Bw c).2).1<(Bw c).1 then Lu k (Bw (Bw c).2).2 else (Bw (Bw c).2).2:=rfl
  rw[e];generalize Bw c=r at *;obtain⟨y,c1⟩:=r;simp only at m s Y a1 ⊢;generalize Bw c1=r at *;obtain⟨x,c2⟩:=r;simp only at Y a1 ⊢;clear V A e;by_cases f:x<y;·rw[Sp f];go_in;go_wp2_with fail;refine Qm m ?_;rintro N ⟨b,g⟩;go_wp2_with fail;refine Qm (Y _ b) ?_;rintro w2 ⟨Z,a0⟩;have O:=a0.own (g.own L Bd) Bd;have Q:=Bb O 2;simp at Q;obtain⟨C,D,s2,F,G,I,l⟩:=Z.sees j a1;have f2:=l (o+2);have J:=Z.setN j k;clear C D F G I l;go_wp2;go_end0;exact⟨rfl,J,((((Gr.refl _ _).alloc _).trans g).trans a0).setB _⟩
  rw[Pf f];go_in;go_wp2_with fail;refine Qm m ?_;rintro N ⟨b,g⟩;go_wp2_with fail;refine Qm (Y _ b) ?_;rintro w2 ⟨Z,a0⟩;go_wp2;go_end0;exact⟨rfl,Z,(((Gr.refl _ _).alloc _).trans g).trans a0⟩
 have m:=Jp c B o t v K _ j z (h.alloc (O15 p 14 (k:Int)));have L:=A 14;have s:=Fu z;have e:Hm 14 k c=if (Bw c).1=0 then Lu k (Bw c).2 else (Bw c).2:=rfl
 rw[e];clear e;generalize Bw c=r at *;obtain⟨x,c1⟩:=r;simp only at m s ⊢;clear V A;by_cases f:x=0;·rw[Sp f];subst f;go_in;go_wp2_with fail;refine Qm m ?_;rintro N ⟨b,g⟩;have O:=g.own L Bd;have Q:=Bb O 2;simp at Q;obtain⟨C,D,s2,F,G,I,l⟩:=b.sees j s;have f2:=l (o+2);have J:=b.setN j k;clear C D F G I l;go_wp2;go_end0;exact⟨rfl,J,(((Gr.refl _ _).alloc _).trans g).setB _⟩
 rw[Pf f];have a2:(x==0)=false:=by simp[f]
 clear f;go_in;go_wp2_with fail;refine Qm m ?_;rintro N ⟨b,g⟩;go_wp2;go_end0;exact⟨rfl,b,((Gr.refl _ _).alloc _).trans g⟩
def Bsk(n:Nat)(j:n<=1000)(w:TW):(Instr.makeSlice 26 (.i (n:Int)) (.i (n:Int))).run prog w=.ok (.s (.p w.heap.size) n n) (w.alloc (.cells (List.replicate n (Value.int .i64 0)).toArray 3)):=by
 obtain⟨b,c,f,g,h⟩:=Bv4 Tryz.infoInt;have:=run_make w 26 3 b _ Bxs c f .i64 .i64 (n:Int) (n:Int) Bd (Byo _) (by rw[h];omega) Bd;rw[g]at this;have e:madeCells (Value.int .i64 0).cells (n*1)=(List.replicate n (Value.int .i64 0)).toArray:=by
  apply Array.ext
  ·simp[madeCells]
  intro i l m;simp[madeCells,Value.cells,Nat.mod_one]
 rw[Bvn,e]at this;exact this
def Bd2:∀(k:Nat) (c:Bh),D6 (k+1) c=((Bw (D6 k c).2).1::(D6 k c).1,(Bw (D6 k c).2).2)
 | 0,c=>by simp[D6]
 | k+1,c=>by
  have h:=Bd2 k (Bw c).2;rw[D6,h,D6];simp
def Bqr{n:Nat}(c:z.length=n)(f:n<=1000)(e:u<=j)(h:w.heap[j]?=some (.cells (z.map (Value.int .i64)).toArray 3 (0,0))):Du w u (.s (.p j) n n) z:=by
 refine⟨Fr,.inr ⟨j,n,_,by rw[c],e,h,Bd,Mc,by simp[c],?_⟩⟩;simp only[B06];rw[Bv0 Fr]
def Br6{k:Nat}{i v:TX}:((List.replicate (k+1) i++e).toArray).setIfInBounds k v=(List.replicate k i++(v::e)).toArray:=by
 rw[Bzw]
 congr 1
 rw[Bzd,Bwe,Bw1 _ _ Fr];simp
def Btx{k:Nat}{i:TX}:((List.replicate (k+1) i++e).toArray)[k]?=some i:=by
 rw[Byh,Bvy Fr];simp
def Bid(c:Bh)(la:TA)(n lc:Nat)(B o:Nat)(t:TypeId)(b f:TV)(w:TW)(ho:b.length=o)(hf:Em c)(J:n<=1000)(h:Mid w B t b c.cells f):Calls prog 248 #[.q B o,.s la n lc] w fun e m=>e=.r (.s (.p w.heap.size) n n)/\Du m w.heap.size (.s (.p w.heap.size) n n) (D6 n c).1/\Mid m B t b (D6 n c).2.cells f/\Gr B w m:=by
 have K:=fun w=>Bsk n J w;have a4:=h.lt;have a3:w.heap.size≠B:=Bd;have v:=h.alloc (.cells (List.replicate n (Value.int .i64 0)).toArray 3);have z:=Bf w (.cells (List.replicate n (Value.int .i64 0)).toArray 3);have g:=fun j w h=>Jp (D6 j c).2 B o t b f w ho (Bc6 j hf) h;have L:=fun j=>Bd2 j c;have N:=fun j=>Vz j c;have O:=Bc g;have Q:=Bc L;have V:=Bc N;clear g L N h;go_in;go_wp2
 go_loopw [6] (fun i wr=>∃(k j:Nat),k+j=n/\i=.i ((k:Int)-1)/\wr.heap[w.heap.size]?=some (.cells (List.replicate k (Value.int .i64 0)++(D6 j c).1.map (Value.int .i64)).toArray 3 (0,0))/\Mid wr B t b (D6 j c).2.cells f/\Gr B w wr)
  (fun i _=>(intOf i+1).toNat)
 case atStart=>exact⟨n,0,Bd,rfl,by simpa[D6] using z,v,(Gr.refl _ _).alloc _⟩
 case round=>
  obtain⟨k,j,a5,rfl,A,C,D⟩:=hrel;cases k with
  | zero =>
   have hj:j=n:=Bd;subst hj;clear K v z;go_wp2;go_ret;refine⟨rfl,Bqr (Ba V j) J (Wf _) (by simpa using A),C,D⟩
  | succ k =>
   have g:=Ba O j _ C;have e1:((k+1:Nat):Int)-1=(k:Int):=Bd;have a6:=D.size;clear K v z C;go_wp2_with fail;refine Qm g ?_;rintro w1 ⟨Y,F⟩;have l:=F.own A a3;have G:=Bq (i:=k) l (.i (Bw (D6 j c).2).1);rw[Br6]at G;have y0:=Bb l k;have y1:=Bj l k;rw[Btx]at y0;have a7:(k:Int)<(n:Int):=Bd;have Z:Mid (w1.setCell (.a w.heap.size k) (.i (Bw (D6 j c).2).1)) B t b (Bw (D6 j c).2).2.cells f:=by
    unfold Mid;rw[Bvg _ _ _ _ (by simpa using (show B≠w.heap.size by omega))];exact Y
   have HG:=Bc (D.trans F);have a0:=Ba Q j;have I:=Bc a0;have a1:=Bc Z;have a2:=Bc G;clear g O Q V Y F A l Z a0 G;generalize Bw (D6 j c).2=pv at *;obtain⟨x,c2⟩:=pv;simp only at I a1 a2 ⊢;go_wp2;go_roundw
   case rel=>exact⟨k,j+1,Bd,rfl,by rw[Ba I];exact Ba a2,by rw[Ba I];exact Ba a1,(Ba HG).set (.inl (Wf _)) _⟩
   case measure=>simp[intOf]
def Tryz.infoCall:(prog.info? 152).map (·.size)=some 20:=Le
def Bd0{s:Nat}{v:TW}(b:Below u v w)(f:u<=s)(c:Array Value):Below u v (w.setRow s c) :=
 ⟨b.os,b.tape,b.output,by rw[B0l];exact b.size,fun k e=>(Bz5 w s k c Bd).trans (b.block k e)⟩
def Bi9{G b:Array Value}(c:w.heap[u]?=some (.cells G g (0,0))):(w.setRow u b).heap[u]?=some (.cells b g (0,0)):=B05 w u G b g (0,0) c
def Btw{k:Nat}{G:Array Value}(h:k≠u):(w.setRow u G).heap[k]?=w.heap[k]?:=Bz5 w u k G h
theorem Ai{w:World}{a:Option Addr}{n:Nat}{z:List Int}(h:Du w u (.slice a n j) z)(p:0<z.length):∃g,a=some ⟨g,0,none⟩/\g<w.heap.size/\∀k (e:k<z.length),w.cell? ⟨g,k,none⟩=some (.int .i64 z[k]):=by
 obtain⟨q,⟨_,s⟩|⟨g,t,v,f,_,i,A,_,B,m⟩⟩:=h
 ·omega
 simp only[Value.slice.injEq]at f;refine⟨g,f.1,Pk i,fun k e=>?_⟩;have:=congrArg (·[k]?) m;simp only[Bww,B06,Sp e,Bv8,Ws e,Option.map_some]at this;rw[Bb i];simpa using this
def Bq1(k:Nat)(c:Bh):La k [] c=c:=rfl
def Bat(m:Int)(I:TA)(vc:Nat)(b:TI)(bb:Nat)(w:TW)(hl:b.length<=1000)(hv:Du w bb (.s I b.length vc) b):Calls prog 84 #[.i m,.s I b.length vc] w fun e w'=>e=.r (.agg (Cn m b).cells.toArray)/\Bl w w':=by
 have J:Bl w (((w.alloc (O29 0 0 0 0 0 0 0 0 0 0 0 0 0 0 0 0 0 0 0 0)).alloc (O29 0 0 0 0 0 0 0 0 0 0 0 0 0 0 0 0 0 0 0 0)).setRow (w.heap.size+1) #[.i m,.i 0,.i 0,.i 0,.i 0,.i 0,.i 0,.i 0,.i 0,.i 0,.i 0,.i 0,.i 0,.i 0,.i 0,.i 0,.i 0,.i 0,.i 0,.i 0]):=Bd0 (Bx _ _ _) Bd _;have K:(((w.alloc (O29 0 0 0 0 0 0 0 0 0 0 0 0 0 0 0 0 0 0 0 0)).alloc (O29 0 0 0 0 0 0 0 0 0 0 0 0 0 0 0 0 0 0 0 0)).setRow (w.heap.size+1) #[.i m,.i 0,.i 0,.i 0,.i 0,.i 0,.i 0,.i 0,.i 0,.i 0,.i 0,.i 0,.i 0,.i 0,.i 0,.i 0,.i 0,.i 0,.i 0,.i 0]).heap[w.heap.size]?=some (O29 0 0 0 0 0 0 0 0 0 0 0 0 0 0 0 0 0 0 0 0):=(Btw Bd).trans (Cb _ _ _);have L:Mid (((w.alloc (O29 0 0 0 0 0 0 0 0 0 0 0 0 0 0 0 0 0 0 0 0)).alloc (O29 0 0 0 0 0 0 0 0 0 0 0 0 0 0 0 0 0 0 0 0)).setRow (w.heap.size+1) #[.i m,.i 0,.i 0,.i 0,.i 0,.i 0,.i 0,.i 0,.i 0,.i 0,.i 0,.i 0,.i 0,.i 0,.i 0,.i 0,.i 0,.i 0,.i 0,.i 0]) (w.heap.size+1) 152 [] (⟨m,0,0,Iz,Iz,0⟩:Bh).cells []:=Bi9 (Bv _ _ _);have l:Hid (La 0 (b.drop 0) ⟨m,0,0,Iz,Iz,0⟩=Cn m b):=rfl;generalize Cn m b=N at *;have A:=fun c n v wr h t=>Zk c n v (w.heap.size+1) 0 152 [] [] wr rfl t h;go_in;go_wp2_with (refine wpList_store_row Hd 152 (.tmp 5) (.tmp 9) Hd (w.heap.size+1) #[.i m,.i 0,.i 0,.i 0,.i 0,.i 0,.i 0,.i 0,.i 0,.i 0,.i 0,.i 0,.i 0,.i 0,.i 0,.i 0,.i 0,.i 0,.i 0,.i 0] Hd Hd 152 _ (Bv w _ _) Tryz.infoCall Hd (by simp[Value.oneCell']) ?_)
 generalize (((w.alloc (O29 0 0 0 0 0 0 0 0 0 0 0 0 0 0 0 0 0 0 0 0)).alloc (O29 0 0 0 0 0 0 0 0 0 0 0 0 0 0 0 0 0 0 0 0)).setRow (w.heap.size+1) #[.i m,.i 0,.i 0,.i 0,.i 0,.i 0,.i 0,.i 0,.i 0,.i 0,.i 0,.i 0,.i 0,.i 0,.i 0,.i 0,.i 0,.i 0,.i 0,.i 0])=w1 at *
 go_loopw [12] (fun i wr=>∃(k:Nat) (c:Bh),k<=b.length/\i=.i (k:Int)/\Hid (La k (b.drop k) c=N)/\Em c/\Mid wr (w.heap.size+1) 152 [] c.cells []/\wr.heap[w.heap.size]?=some (O29 0 0 0 0 0 0 0 0 0 0 0 0 0 0 0 0 0 0 0 0)/\Bl w wr)
  (fun i _=>b.length-(intOf i).toNat)
 case atStart=>exact⟨0,_,Bd,rfl,l,Bi2 m,L,K,J⟩
 case round=>
  clear l L K J;obtain⟨k,c,hk,rfl,l,t,z,B,f⟩:=hrel;by_cases O:k<b.length
  ·obtain⟨g,hg,a1,Q⟩:=Ai hv Bd;have V:=Q k O;have y1:wr.C g k (.i b[k]):=(f.cell (p:=.a g k) a1).trans V;have Y:=A c (k:Int) b[k] wr z t;have a2:=Wz t (k:Int) b[k];have Z:b.drop k=b[k]::b.drop (k+1):=by rw[Wr O]
   have a3:Hid (La (k+1) (b.drop (k+1)) (Ff (k:Int) b[k] c)=N):=by
    have:=Ba l;rw[Z]at this;exact this
   have b1:(k:Int)<(b.length:Int):=Bd;have a4:=f.size;generalize b[k]=x at *;subst hg;clear l Z V Q A z;go_wp2_with fail;refine Qm Y ?_;rintro w2 ⟨h2,q⟩;have a5:=q.own B Bd;have a6:Bl w w2:=⟨(World.grownBy.os q).trans f.os,(World.grownBy.tape q).trans f.tape,(World.grownBy.output q).trans f.output,Bvv f.size q.size,fun j hj=>(q.blk (Bvm hj a4) Bd).trans (f.block j hj)⟩;clear q Y;go_wp2;go_roundw
   case rel=>exact⟨k+1,_,Bd,Lt,a3,a2,h2,a5,a6⟩
   case measure=>simp[intOf];omega
  have a7:k=b.length:=Bd;subst a7;have D:=Ba l;rw[List.drop_length,Bq1]at D;have a8:wr.heap[w.heap.size+1]?=some (.cells c.cells.toArray 152 (0,0)):=by
   have:=z;unfold Mid at this;simpa using this
  have F:(prog.info? 152).map (·.size)=some c.cells.toArray.size:=by rw[Tryz.infoCall];simp[t.len]
  have hz:20=c.cells.toArray.size:=by simp[t.len]
  have a9:=Bya (Ph c);have HN:=Bc D;clear D l A z;generalize a0:c.cells.toArray=G at *;have b0:=Bc a0;clear a0;go_wp2_with (first|(refine Bwd Hd 152 (.tmp 5) Hd (w.heap.size+1) Hd 152 G (0,0) _ a8 Byy Hd F ?_)|(refine wpList_store_row Hd 152 (.tmp 4) (.tmp 21) Hd w.heap.size G Hd Hd 152 _ B F hz a9 ?_))
  refine Bwy (results_cell_row results84 _ _ w.heap.size 152 G (0,0) _ Hd (Bi9 B) Byy Hd F) rfl ?_;exact⟨by rw[<- Ba b0,Ba HN],Bd0 f (Wf _) _⟩
def ocells:List (Int × List Int)->TV->List Value
 | x::r,v::vs=>.int .i64 x.1::v::ocells r vs
 | _,_=>[]
def Bcb:∀(l:List (Int×List Int)) (b:TV),b.length=l.length->(ocells l b).length=l.length*2
 | [],[],_=>rfl
 | [],_::_,h=>by simp at h
 | _::_,[],h=>by simp at h
 | x::r,v::b,h=>by simp only[ocells,Bvo];rw[Bcb r b (by simpa using h)];omega
def Bec:∀(l:List (Int×List Int)) (c:TV),c.length=l.length->∀i,i<l.length->(ocells l c)[i*2]?=some (.i (l.getD i (0,[])).1)/\(ocells l c)[i*2+1]?=some (c.getD i (.s none 0 0))
 | [],_,_,i,h=>by simp at h
 | x::r,[],h,_,_=>by simp at h
 | x::r,v::c,h,0,_=>⟨rfl,rfl⟩
 | x::r,v::c,h,i+1,hi=>by
  obtain⟨a,b⟩:=Bec r c (by simpa using h) i (by simpa using hi);rw[show (i+1)*2=i*2+1+1 by omega,ocells];exact⟨by simpa using a,by simpa using b⟩
def Ys:∀(l:List (Int×List Int)) (b:TV),b.length=l.length->∀(x:Int×List Int) (v:TX),ocells (l++[x]) (b++[v])=ocells l b++[.i x.1,v]
 | [],[],_,_,_=>rfl
 | [],_::_,h,_,_=>by simp at h
 | _::_,[],h,_,_=>by simp at h
 | y::r,u::b,h,x,v=>by simp only[Bws,ocells];rw[Ys r b (by simpa using h)]
def Bca:∀(l:List (Int×List Int)) (b:TV),b.length=l.length->∀(i:Nat) (c:Int) (e:TI) (v:TX),(l.getD i (0,[])).1=c->i<l.length->(ocells l b).set (i*2+1) v=ocells (l.set i (c,e)) (b.set i v)
 | [],_,_,i,_,_,_,_,h=>by simp at h
 | x::r,[],h,_,_,_,_,_,_=>by simp at h
 | x::r,u::b,_,0,c,e,v,hc,_=>by
  have:x.1=c:=hc;simp[ocells,this]
 | x::r,u::b,h,i+1,c,e,v,hc,hi=>by
  rw[show (i+1)*2+1=(i*2+1)+1+1 by omega];simp only[ocells,Bwf];rw[Bca r b (by simpa using h) i c e v (by simpa using hc) (by simpa using hi)]
def Bas:∀(l c:List (Int×List Int)) (b:TV),l.map Prod.fst=c.map Prod.fst->ocells l b=ocells c b
 | [],[],_,_=>rfl
 | [],_::_,_,h=>by simp at h
 | _::_,[],_,h=>by simp at h
 | x::r,y::q,[],_=>rfl
 | x::r,y::q,v::b,h=>by
  simp only[Bwm,List.cons.injEq]at h;simp only[ocells];rw[h.1,Bas r q b h.2]
structure Cv where
 B:Nat
 ob:Nat
 w0:World
 wE:World
 ca:Option Addr
 cn:Nat
 cc:Nat
 ma:Option Addr
 mc:Nat
 tg:Nat
 tc:Nat
 ya:Option Addr
 yc:Nat
 bm:Nat
 bf:Nat
 T:List Int
 lf:List (Value × List (Int × Int))
 lms:List (Rd.Mth × Eh)
 entry:Int
 ia:Option Addr
 ic:Nat
 ins:List Int
 room:Int
 depth:Int
 fuel:Int
def Cv.E (k:Cv):Ds:=⟨k.T,k.lf.map Prod.snd,k.lms.map Prod.fst,k.ins,k.room,k.depth⟩
def Jk (w:TW)(a:TA)(l:TI):Prop:=∀i,i<l.length->∃g o,a=some ⟨g,o,none⟩/\g<w.heap.size/\w.cell? ⟨g,o+i,none⟩=some (.int .i64 (l.getD i 0))
def Jk.below{b:TW}{a:TA}(h:Jk w a z)(c:Bl w b):Jk b a z:=fun i j=>by
 obtain⟨g,o,e,f,m⟩:=h i j;exact⟨g,o,e,Bvm f c.size,by rw[c.cell (p:=.a g (o+i)) f];exact m⟩
structure Cv.Ok(k:Cv):Prop where
 tr:Dl k.w0 k.tg k.T
 tl:k.T.length<=1000
 fl:Np k.w0 k.bf (.slice k.ya k.lf.length k.yc) k.lf
 f14:k.lf.length<=14
 ff:∀p∈k.lf,p.2.length<=10
 ms:Eb k.wE k.bm (.slice k.ma k.lms.length k.mc) k.lms
 ml:k.lms.length<=1000
 cd:∀p∈k.lms,p.1.code.length<=1000/\∀x∈p.1.code,0<=x/\x<=255
 ps:∀p∈k.lms,p.1.params.length<=10
 hn:∀p∈k.lms,p.1.handlers.length<=1000/\∀h∈p.1.handlers,0<=h.target/\h.target<=1000
 ins:Jk k.wE k.ia k.ins
 il:k.ins.length<=1000
 dep:1<=k.depth/\k.depth<=12
 rm:0<=k.room/\k.room<=30
 fu:0<=k.fuel/\k.fuel<=3000
 tB:k.tg≠k.B/\k.tg≠k.ob
 fB:∀j,(Value.slice k.ya k.lf.length k.yc).ownBlock=some j->j≠k.B/\j≠k.ob
 fy:∀p∈k.lf,∀j,p.1.ownBlock=some j->j≠k.B/\j≠k.ob
 sz:k.wE.heap.size<=k.w0.heap.size
 Bs:k.B<k.w0.heap.size/\k.ob<k.w0.heap.size/\k.wE.heap.size<=k.B/\k.wE.heap.size<=k.ob
structure Dh where
 oa:Option Addr
 oc:Nat
 wa:Option Addr
 wc:Nat
 xa:Option Addr
 xc:Nat
 ov:List Value
def Jr (k:Cv)(read ol:Nat)(v:Dh):List Value :=
 [.slice k.ca k.cn k.cc,.slice k.ma k.lms.length k.mc,.slice (some ⟨k.tg,0,none⟩) k.T.length k.tc,.slice k.ya k.lf.length k.yc,.int .i64 k.entry,.slice k.ia k.ins.length k.ic,.int .i64 k.room,.int .i64 k.depth,.int .i64 k.fuel,.int .i64 (read:Int),.slice v.oa ol v.oc,.int .i64 k.room]
def Hp (v:Dh)(wl xl:Nat)(ended:Bool)(status value:Int)(steps:Nat):List Value :=
 [.slice v.wa wl v.wc,.bool ended,.slice v.xa xl v.xc,.int .i64 status,.int .i64 value,.int .i64 (steps:Int)]
def Jc(k:Cv)(r o:Nat)(v:Dh):(Jr k r o v).length=12:=rfl
def M4(v:Dh)(b c:Nat)(e:Bool)(s x:Int)(f:Nat):(Hp v b c e s x f).length=6:=rfl
structure Dw(k:Cv)(O:List (Int × List Int))(W:List Bh)(X:List Int)(v:Dh)(w:World):Prop where
 objs:w.ownsRow k.wE.heap.size 215 2 (.slice v.oa O.length v.oc) O.length (ocells O v.ov)
 ovl:v.ov.length=O.length
 obk:∀j,(Value.slice v.oa O.length v.oc).ownBlock=some j->j=k.ob\/k.w0.heap.size<=j
 flds:∀i,i<O.length->Du w k.w0.heap.size (v.ov.getD i (.slice none 0 0)) (O.getD i (0,[])).2
 wait:w.ownsRow k.w0.heap.size 152 20 (.slice v.wa W.length v.wc) W.length (W.flatMap Bh.cells)
 wwf:∀c∈W,Em c
 out:Du w k.w0.heap.size (.slice v.xa X.length v.xc) X
 nd:((Value.slice v.xa X.length v.xc::v.ov).filterMap Value.ownBlock).Nodup
 keep:∀j,j<k.w0.heap.size->j≠k.B->j≠k.ob->w.heap[j]?=k.w0.heap[j]?
 low:Below k.wE.heap.size k.wE w
 szs:k.w0.heap.size<=w.heap.size
structure Bz(k:Cv)(S:Bo)(v:Dh)(w:World):Prop where
 blk:Mid w k.B 156 (Jr k S.read S.objs.length v) S.now.cells (Hp v S.wait.length S.out.length S.ended S.status S.value S.steps)
 wf:Em S.now
 rows:Dw k S.objs S.wait S.out v w
def Gd{s n:Nat}{i:TX}{cs:TV}{B:Nat}{p:Nat×Nat}(h:w.ownsRow u s j i n e)(q:w.heap[B]?=some (.cells cs.toArray g p))(v:s≠g):∀c,i.ownBlock=some c->c≠B:=by
 intro c l z;obtain⟨_,⟨rfl,_⟩|⟨f,A,C,rfl,_,m,_⟩⟩:=h
 ·simp[Value.ownBlock]at l
 simp only[Value.ownBlock,Option.some.injEq]at l;subst l z;rw[q]at m;simp only[Option.some.injEq,Obj.cells.injEq]at m;exact v m.2.1.symm
def Gs{b:TW}{s n:Nat}{i:TX}(h:w.ownsRow u s j i n e)(m:∀c,i.ownBlock=some c->b.heap[c]?=w.heap[c]?):b.ownsRow u s j i n e:=by
 obtain⟨f,p|⟨g,q,t,l,v,z,r⟩⟩:=h
 ·exact⟨f,.inl p⟩
 exact⟨f,.inr ⟨g,q,t,l,v,(m g (by rw[l];rfl)).trans z,r⟩⟩
def Dw.gr{k:Cv}{q:List Bh}{v:Dh}{b:TW}(h:Dw k A q z v w)(F:k.Ok)(G:w.heap[k.B]?=some (.cells e.toArray 156 (0,0)))(g:Gr k.B w b):Dw k A q z v b:=by
 have m:∀{c f s n:Nat}{u:TX}{t:TV},w.ownsRow c f s u n t->f≠156->b.ownsRow c f s u n t:=fun p I =>
  Gs p (fun j l=>g.blk (p.lt j l).2 (Gd p G I j l))
 refine⟨m h.objs Ck,h.ovl,h.obk,fun i J=>m (h.flds i J) Ck,m h.wait Ck,h.wwf,m h.out Ck,h.nd,fun j C D K=>?_,?_,Bvv h.szs g.size⟩
 ·rw[g.blk (Bvm C h.szs) D];exact h.keep j C D K
 exact⟨(World.grownBy.os g).trans h.low.os,(World.grownBy.tape g).trans h.low.tape,(World.grownBy.output g).trans h.low.output,Bvv h.low.size g.size,
  fun j l=>(g.blk (Bvm l h.low.size) (by have:=F.Bs;omega)).trans (h.low.block j l)⟩
def Bz.now{k:Cv}{S:Bo}{v:Dh}{b:TW}(h:Bz k S v w)(e:k.Ok)(f:Gr k.B w b){c:Bh}(g:Em c) (i:Mid b k.B 156 (Jr k S.read S.objs.length v) c.cells (Hp v S.wait.length S.out.length S.ended S.status S.value S.steps)):Bz k (S.withNow c) v b :=
 ⟨i,g,h.rows.gr e h.blk f⟩
structure Btj(k:Cv)(S:Bo)(v:Dh)(w:World):Prop where
 c0:w.cell? ⟨k.B,0,none⟩=some (.slice k.ca k.cn k.cc)
 c1:w.cell? ⟨k.B,1,none⟩=some (.slice k.ma k.lms.length k.mc)
 c2:w.cell? ⟨k.B,2,none⟩=some (.slice (some ⟨k.tg,0,none⟩) k.T.length k.tc)
 c3:w.cell? ⟨k.B,3,none⟩=some (.slice k.ya k.lf.length k.yc)
 c4:w.cell? ⟨k.B,4,none⟩=some (.int .i64 k.entry)
 c5:w.cell? ⟨k.B,5,none⟩=some (.slice k.ia k.ins.length k.ic)
 c6:w.cell? ⟨k.B,6,none⟩=some (.int .i64 k.room)
 c7:w.cell? ⟨k.B,7,none⟩=some (.int .i64 k.depth)
 c8:w.cell? ⟨k.B,8,none⟩=some (.int .i64 k.fuel)
 c9:w.cell? ⟨k.B,9,none⟩=some (.int .i64 (S.read:Int))
 c10:w.cell? ⟨k.B,10,none⟩=some (.slice v.oa S.objs.length v.oc)
 c11:w.cell? ⟨k.B,11,none⟩=some (.int .i64 k.room)
 c12:w.cell? ⟨k.B,12,none⟩=some (.int .i64 S.now.meth)
 c13:w.cell? ⟨k.B,13,none⟩=some (.int .i64 (S.now.pos:Int))
 c14:w.cell? ⟨k.B,14,none⟩=some (.int .i64 (S.now.next:Int))
 c32:w.cell? ⟨k.B,32,none⟩=some (.slice v.wa S.wait.length v.wc)
 c33:w.cell? ⟨k.B,33,none⟩=some (.bool S.ended)
 c34:w.cell? ⟨k.B,34,none⟩=some (.slice v.xa S.out.length v.xc)
 c35:w.cell? ⟨k.B,35,none⟩=some (.int .i64 S.status)
 c36:w.cell? ⟨k.B,36,none⟩=some (.int .i64 S.value)
 c37:w.cell? ⟨k.B,37,none⟩=some (.int .i64 (S.steps:Int))
 fr:∀j,w.frozen? ⟨k.B,j,none⟩=false
def Mid.tail{T b:TV}(h:Mid w u g e T b):Mid w u g (e++T) b []:=by
 unfold Mid at h ⊢;rw[h];simp
def Mid.untail{T b:TV}(h:Mid w u g (e++T) b []):Mid w u g e T b:=by
 unfold Mid at h ⊢;rw[h];simp
def Mid.front{T b:TV}(h:Mid w u g e T b):Mid w u g [] e (T++b):=by
 unfold Mid at h ⊢;rw[h];simp
def Mid.unfront{T b:TV}(h:Mid w u g [] e (T++b)):Mid w u g e T b:=by
 unfold Mid at h ⊢;rw[h];simp
def Bz.sees{k:Cv}{S:Bo}{v:Dh}(h:Bz k S v w):Btj k S v w:=by
 have f:=h.blk.front;have g:=h.blk.tail;have i:(Jr k S.read S.objs.length v++S.now.cells).length=32:=by rw[Up,Jc,h.wf.len]
 have b:∀j,j<12->w.cell? (.a k.B j)=(Jr k S.read S.objs.length v)[j]?:=fun j c=>by
  have:=f.cell (o:=0) (j:=j) rfl (by rw[Jc];exact c);rw[Bvp]at this;exact this
 have tl:∀j,j<6->w.cell? (.a k.B (32+j))=(Hp v S.wait.length S.out.length S.ended S.status S.value S.steps)[j]?:=fun j c=>g.cell i (by rw[M4];exact c);have e:=h.blk.sees (o:=12) rfl h.wf;exact⟨b 0 Bd,b 1 Bd,b 2 Bd,b 3 Bd,b 4 Bd,b 5 Bd,b 6 Bd,b 7 Bd,b 8 Bd,b 9 Bd,b 10 Bd,b 11 Bd,e.m,e.p,e.n,
  tl 0 Bd,tl 1 Bd,tl 2 Bd,tl 3 Bd,tl 4 Bd,tl 5 Bd,fun j=>h.blk.free j⟩
def Bz.setPost{k:Cv}{S:Bo}{v:Dh}(h:Bz k S v w)(f:k.Ok)(g:j<6)(u:TX){b:Bo}{c:Dh}(e:b.now=S.now) (i:Jr k b.read b.objs.length c=Jr k S.read S.objs.length v)(l:(Hp v S.wait.length S.out.length S.ended S.status S.value S.steps).set j u=Hp c b.wait.length b.out.length b.ended b.status b.value b.steps) (m:Dw k b.objs b.wait b.out c w):Bz k b c (w.setCell (.a k.B (32+j)) u):=by
 have p:(Jr k S.read S.objs.length v++S.now.cells).length=32:=by rw[Up,Jc,h.wf.len]
 refine⟨?_,by rw[e];exact h.wf,m.gr f h.blk ((Gr.refl _ _).setB _)⟩;rw[i,e,<- l];exact(h.blk.tail.set p (by rw[M4];exact g) u).untail
def Bz.setPre{k:Cv}{S:Bo}{v:Dh}(h:Bz k S v w)(f:k.Ok)(g:j<12)(u:TX){b:Bo}{c:Dh}(e:b.now=S.now) (i:(Jr k S.read S.objs.length v).set j u=Jr k b.read b.objs.length c)(l:Hp c b.wait.length b.out.length b.ended b.status b.value b.steps=Hp v S.wait.length S.out.length S.ended S.status S.value S.steps) (m:Dw k b.objs b.wait b.out c w):Bz k b c (w.setCell (.a k.B j) u):=by
 refine⟨?_,by rw[e];exact h.wf,m.gr f h.blk ((Gr.refl _ _).setB _)⟩;have:=h.blk.front.set (o:=0) (j:=j) rfl (by rw[Jc];exact g) u;rw[Bvp]at this;rw[<- i,e,l];exact this.unfront
def Bot{k:Cv}{T:TV}{f:Bh}(g:Mid w k.B 156 e f.cells T)(i:e.length=12)(l:Em f)(m:k.Ok)(p:j<12)(u:TX){b:Bo}{c:Dh}(h:b.now=f) (q:e.set j u=Jr k b.read b.objs.length c)(s:Hp c b.wait.length b.out.length b.ended b.status b.value b.steps=T)(t:Dw k b.objs b.wait b.out c w):Bz k b c (w.setCell (.a k.B j) u):=by
 refine⟨?_,by rw[h];exact l,t.gr m g ((Gr.refl _ _).setB _)⟩;have:=g.front.set (o:=0) (j:=j) rfl (by rw[i];exact p) u;rw[Bvp]at this;rw[<- q,h,s];exact this.unfront
def Ve{k:Cv}{T:TV}{b:Bh}(c:Mid w k.B 156 e b.cells T)(h:e.length=12)(s:T.length=6)(f:Em b)(i:k.Ok)(t:j<6)(u:TX){S':Bo}{v':Dh}(g:S'.now=b) (l:Jr k S'.read S'.objs.length v'=e)(m:T.set j u=Hp v' S'.wait.length S'.out.length S'.ended S'.status S'.value S'.steps)(p:Dw k S'.objs S'.wait S'.out v' w):Bz k S' v' (w.setCell (.a k.B (32+j)) u):=by
 refine⟨?_,by rw[g];exact f,p.gr i c ((Gr.refl _ _).setB _)⟩;have q:(e++b.cells).length=32:=by rw[Up,h,f.len]
 rw[l,g,<- m];exact(c.tail.set q Bd u).untail
def Bz.gr{k:Cv}{S:Bo}{v:Dh}{b:TW}(h:Bz k S v w)(e:k.Ok)(c:Bl w b):Bz k S v b :=
 h.now e (Gr.of_below (Gr.refl _ _) c) h.wf (h.blk.below c)
def Dw.tree{k:Cv}{c:List Bh}{v:Dh}(h:Dw k A c z v w)(b:k.Ok):Dl w k.tg k.T:=by
 have e:=h.keep k.tg b.tr.1 b.tB.1 b.tB.2;exact⟨Bvm b.tr.1 h.szs,fun i f=>by rw[Bvj (a:=⟨k.tg,i,none⟩) e];exact b.tr.2 i f⟩
def Dw.mths{k:Cv}{b:List Bh}{v:Dh}(h:Dw k A b z v w)(c:k.Ok):Eb w k.bm (.s k.ma k.lms.length k.mc) k.lms :=
 c.ms.kp (Kp.of_below (e:=none) h.low) Ck Ck Ck Ck Ck
def Dw.ints{k:Cv}{b:List Bh}{v:Dh}(h:Dw k A b z v w)(c:k.Ok):Jk w k.ia k.ins:=c.ins.below h.low
def Bbj(k:Cv)(S:Bo)(v:Dh)(b x:Int)(w:TW)(f:k.Ok)(h:Bz k S v w):Calls prog 85 #[.q k.B 0,.i b,.i x] w fun e m=>e=.r (.tuple #[])/\Bz k (S.fin b x) v m:=by
 obtain⟨p,s,t,z,A,C,D,F,G,I,J,K,L,N,O,Q,a0,V,a1,a2,Y,c⟩:=h.sees;have a3:=c 33;have a4:=c 35;have a5:=c 36;have g:Bz k ⟨S.read,S.objs,S.now,S.wait,S.ended,S.out,b,S.value,S.steps⟩ v (w.setCell (.a k.B 35) (.i b)):=h.setPost f (j:=3) Bd _ rfl rfl rfl h.rows;have l:Bz k ⟨S.read,S.objs,S.now,S.wait,S.ended,S.out,b,x,S.steps⟩ v ((w.setCell (.a k.B 35) (.i b)).setCell (.a k.B 36) (.i x)):=g.setPost f (j:=4) Bd _ rfl rfl rfl g.rows;have Z:Bz k (S.fin b x) v (((w.setCell (.a k.B 35) (.i b)).setCell (.a k.B 36) (.i x)).setCell (.a k.B 33) (.bool true)):=l.setPost f (j:=1) Bd _ rfl rfl rfl l.rows;clear p s t z A C D F G I J K L N O Q V Y c g l;go_in;go_wp2;go_end0;exact⟨rfl,Z⟩
def Bed(w:TW)(b:Nat):(⟨0,0,none,0,0,0,0,0,0,none,0,0,none,0,0,none,0,0⟩:PM).is Eu w b :=
 ⟨rfl,rfl,rfl,rfl,rfl,rfl,rfl,Bvl _ _ _ _,rfl,Bvl _ _ _ _,rfl,Bvl _ _ _ _,rfl,[],rfl,Bvl _ _ _ _,fun p c=>by simp at c⟩
def Re(k:Cv)(S:Bo)(v:Dh)(n:Int)(w:TW)(Y:k.Ok)(h:Bz k S v w):Calls prog 131 #[.q k.B 0,.i n] w fun e Z=>∃m:PM,e=.returned m.val/\m.is (k.E.meth n) Z k.bm/\Bl w Z:=by
 obtain⟨c0,c1,c2,c3,c4,c5,c6,c7,c8,c9,a1,a2,a3,a4,a5,a6,a7,a8,a9,b0,b1,fr⟩:=h.sees;have b:=h.rows.mths Y;have b2:=Y.ml;have b3:=h.blk.lt;clear c0 c2 c3 c4 c5 c6 c7 c8 c9 a1 a2 a3 a4 a5 a6 a7 a8 a9 b0 b1 fr;unfold Ds.meth;have a0:k.E.ms.length=k.lms.length:=by simp[Cv.E]
 rw[a0];by_cases c:n<0;·rw[Sp c];clear b h;go_in;go_wp2;refine tb (.agg #[.i 0,.i 0,.s none 0 0,.i 0,.i 0,.i 0,.i 0,.s none 0 0,.s none 0 0,.s none 0 0]) (by simp[results,B0i,go_sem]) ?_;exact⟨_,rfl,Bed _ _,by repeat (first|exact Vm _ _|refine Bwu ?_ Fr _|refine Bvq ?_ Fr _)⟩
 rw[Pf c];by_cases f:(k.lms.length:Int)<=n;·rw[Sp f];clear b h;go_in;go_wp2;refine tb (.agg #[.i 0,.i 0,.s none 0 0,.i 0,.i 0,.i 0,.i 0,.s none 0 0,.s none 0 0,.s none 0 0]) (by simp[results,B0i,go_sem]) ?_;exact⟨_,rfl,Bed _ _,by repeat (first|exact Vm _ _|refine Bwu ?_ Fr _|refine Bvq ?_ Fr _)⟩
 rw[Pf f];obtain⟨i,rfl⟩:=Bvk (show 0<=n by omega);have hi:i<k.lms.length:=Bd;have e:k.E.ms.getD (i:Int).toNat Eu=k.lms[i].1:=by
  rw[Bvn,Th];simp[Cv.E,hi]
 rw[e];obtain⟨q,g,hg,b4,Et,hq⟩:=b.mth hi;obtain⟨y0,y1,y2,y3,y4,y5,y6,y7,y8,y9⟩:=Ub Et;rw[hg]at c1;have b5:(i:Int)<(k.lms.length:Int):=Bd;generalize k.lms[i]=x at *;obtain⟨j,l,p,t,z,A,C,D,F,G,I,J,K,L,N,O,Q,V⟩:=q;simp only at y0 y1 y2 y3 y4 y5 y6 y7 y8 y9;clear Et b h c f e hg a0;go_in;go_wp2;refine tb (.agg #[.i j,.i l,.s p t z,.i A,.i C,.i D,.i F,.s G I J,.s K L N,.s O Q V]) (by simp[results,B0i,go_sem]) ?_;have hb:Bl w (w.alloc (O18 j l p t z A C D F G I J K L N O Q V)):=QN _;exact⟨⟨j,l,p,t,z,A,C,D,F,G,I,J,K,L,N,O,Q,V⟩,rfl,hq.below hb,hb⟩
def Bla{α β:Type}{f:α->Option β}:∀{l:List α},(l.filterMap f).Nodup->∀{i j:Nat}{a b:α}{g:β},i≠j->l[i]?=some a->l[j]?=some b->f a=some g->f b≠some g
 | [],_,i,_,_,_,_,_,h,_,_=>by simp at h
 | x::r,hn,i,j,a,b,g,hij,hi,hj,ha=>by
  intro m;have s:(r.filterMap f).Nodup:=by
   cases e:f x with
   | none=>rw[Bxv e]at hn;exact hn
   | some y=>rw[Bw8 e]at hn;exact(List.nodup_cons.1 hn).2
  have p:∀{q:Nat}{c:α},f x=some g->r[q]?=some c->f c=some g->False:=fun {q c} e t v=>by
   rw[Bw8 e]at hn;exact(List.nodup_cons.1 hn).1 (List.mem_filterMap.2 ⟨c,Bwv t,v⟩)
  cases i with
  | zero =>
   cases j with
   | zero=>exact hij rfl
   | succ j =>
    simp only[Bxq,Option.some.injEq]at hi;subst hi;exact p ha (by simpa using hj) m
  | succ i =>
   cases j with
   | zero =>
    simp only[Bxq,Option.some.injEq]at hj;subst hj;exact p m (by simpa using hi) ha
   | succ j=>exact Bla s (i:=i) (j:=j) Bd (by simpa using hi) (by simpa using hj) ha m
theorem Dw.obj{k:Cv}{l:List Bh}{z:List Int}{v:Dh}{w:World}(h:Dw k A l z v w)(m:u<A.length):∃g,v.oa=some ⟨g,0,none⟩/\g<w.heap.size/\w.cell? ⟨g,u*2,none⟩=some (.int .i64 (A.getD u (0,[])).1)/\w.cell? ⟨g,u*2+1,none⟩=some (v.ov.getD u (.slice none 0 0))/\∀j,w.frozen? ⟨g,j,none⟩=false:=by
 obtain⟨g,e,p,_,f⟩:=Cf h.objs Bd;obtain⟨a,b⟩:=Bec A v.ov h.ovl u m;have s:=Bcb A v.ov h.ovl;refine⟨g,e,p,by rw[f _ Bd];exact a,by rw[f _ Bd];exact b,?_⟩;intro j;obtain⟨_,⟨c,t⟩|⟨B,C,D,c,_,q,_⟩⟩:=h.objs
 ·omega
 rw[e]at c;simp only[Value.slice.injEq,Option.some.injEq,Addr.mk.injEq,Bwb]at c;obtain⟨rfl,_⟩:=c;exact Bj q j
def Dw.flds_ne{k:Cv}{b:List Bh}{v:Dh}(h:Dw k A b z v w){i:Nat}{g:Nat}(c:i<A.length)(f:j<A.length)(m:i≠j) (l:(v.ov.getD i (.s none 0 0)).ownBlock=some g):(v.ov.getD j (.s none 0 0)).ownBlock≠some g:=by
 have p:=h.ovl;have e:∀q,q<A.length->(Value.slice v.xa z.length v.xc::v.ov)[q+1]?=some (v.ov.getD q (.s none 0 0)):=fun q t=>by
  rw[Bwi,Th,Ws Bd];rfl
 exact Bla h.nd (i:=i+1) (j:=j+1) Bd (e i c) (e j f) l
def Dw.out_ne{k:Cv}{b:List Bh}{v:Dh}(h:Dw k A b z v w){i:Nat}{g:Nat}(f:i<A.length) (c:(v.ov.getD i (.s none 0 0)).ownBlock=some g):(Value.slice v.xa z.length v.xc).ownBlock≠some g:=by
 have l:=h.ovl;have e:(Value.slice v.xa z.length v.xc::v.ov)[i+1]?=some (v.ov.getD i (.s none 0 0)):=by
  rw[Bwi,Th,Ws Bd];rfl
 exact Bla h.nd (i:=i+1) (j:=0) Bd e rfl c
def Bbi(k:Cv)(S:Bo)(v:Dh)(r:Int)(w:TW)(h:Bz k S v w):Calls prog 284 #[.q k.B 10,.i r] w fun e c=>e=.r (.bool (Nl r S.objs))/\c=w:=by
 have g:=h.sees.c10;unfold Nl;by_cases f:1<=r
 ·by_cases b:r<=(S.objs.length:Int);·clear h;go_in;go_wp2;go_ret;exact⟨by simp[f,b],rfl⟩
  clear h;go_in;go_wp2;go_ret;exact⟨by simp[b],rfl⟩
 clear h;go_in;go_wp2;go_ret;exact⟨Fm,rfl⟩
def Yt{r:Int}:Nl r A=true<->∃i:Nat,i<A.length/\r=(i:Int)+1:=by
 unfold Nl;rw[Bwk,Bwp,Bwp]
 constructor
 ·intro ⟨a,b⟩;exact⟨(r-1).toNat,Bd,Bd⟩
 rintro ⟨i,a,rfl⟩;omega
def V5(k:Cv)(S:Bo)(v:Dh)(r:Int)(w:TW)(h:Bz k S v w):Calls prog 250 #[.q k.B 10,.i r] w fun e j=>e=.r (.i (Id r S.objs))/\j=w:=by
 have c:=Bbi k S v r w h;have l:=h.sees.c10;unfold Id;cases b:Nl r S.objs with
 | false =>
  rw[b]at c;rw[Pf Fr];clear h b;go_in;go_wp2_with fail;refine Qm c ?_;rintro m rfl;go_wp2;go_ret;exact⟨rfl,rfl⟩
 | true =>
  rw[b]at c;rw[Sp rfl];obtain⟨i,p,rfl⟩:=Yt.1 b;unfold Mv;have e:((i:Int)+1-1).toNat=i:=Bd;rw[e];obtain⟨g,f,A,C,s,t⟩:=h.rows.obj p;rw[f]at l;have D:(i:Int)<(S.objs.length:Int):=Bd;have F:S.objs.length<=9223372036854775807:=by
   obtain⟨_,⟨_,G⟩|⟨_,I,_,_,_,_,J,z,_⟩⟩:=h.rows.objs
   ·omega
   unfold maxLen at z;omega
  clear h b e t s f;generalize (S.objs.getD i (0,[])).1=K at *;go_in;go_wp2_with fail;refine Qm c ?_;rintro m rfl;go_wp2;go_ret;exact⟨rfl,rfl⟩
def Zm(k:Cv)(S:Bo)(v:Dh)(r s:Int)(w:TW)(h:Bz k S v w):Calls prog 302 #[.q k.B 10,.i r,.i s] w fun e t=>e=.r (.bool (Jm r s S.objs))/\t=w:=by
 have c:=Bbi k S v r w h;have z:=h.sees.c10;unfold Jm;cases b:Nl r S.objs with
 | false =>
  rw[b]at c;rw[Bx0];clear h b;go_in;go_wp2_with fail;refine Qm c ?_;rintro f rfl;go_wp2;go_ret;exact⟨rfl,rfl⟩
 | true =>
  rw[b]at c;rw[Bxn];by_cases j:0<=s
  ·obtain⟨i,l,rfl⟩:=Yt.1 b;unfold Mv;have e:((i:Int)+1-1).toNat=i:=Bd;rw[e,Bxp j,Bxn];obtain⟨g,m,G,A,C,D⟩:=h.rows.obj l;rw[m]at z;have I:(i:Int)<(S.objs.length:Int):=Bd;have J:S.objs.length<=9223372036854775807:=by
    obtain⟨_,⟨_,K⟩|⟨_,L,_,_,_,_,N,F,_⟩⟩:=h.rows.objs
    ·omega
    unfold maxLen at F;omega
   obtain⟨O,Q,p⟩:=Bg (h.rows.flds i l);rw[p]at C;clear h b e D A m p;generalize (S.objs.getD i (0,[])).2=V at *;go_in;go_wp2_with fail;refine Qm c ?_;rintro f rfl;go_wp2;go_ret;exact⟨rfl,rfl⟩
  rw[Bwx j,Bx0];clear h b;go_in;go_wp2_with fail;refine Qm c ?_;rintro f rfl;go_wp2;go_ret;exact⟨rfl,rfl⟩
def Ak{r B:Int}:Jm r B A=true<->∃i j:Nat,i<A.length/\r=(i:Int)+1/\B=(j:Int)/\j<(A.getD i (0,[])).2.length:=by
 unfold Jm;rw[Bwk,Yt,Bwk,Bwp,Bwp]
 constructor
 ·rintro ⟨⟨i,b,rfl⟩,f,c⟩;have e:((i:Int)+1-1).toNat=i:=Bd;unfold Mv at c;rw[e]at c;exact⟨i,B.toNat,b,rfl,Bd,Bd⟩
 rintro ⟨i,j,b,rfl,rfl,g⟩;have e:((i:Int)+1-1).toNat=i:=Bd;refine⟨⟨i,b,rfl⟩,Bd,?_⟩;unfold Mv;rw[e];omega
def Dw.ol{k:Cv}{b:List Bh}{v:Dh}(h:Dw k A b z v w):A.length<=9223372036854775807:=by
 obtain⟨_,⟨_,e⟩|⟨_,f,_,_,_,_,g,c,_⟩⟩:=h.objs
 ·omega
 unfold maxLen at c;omega
def Bgo(i:Nat)(l:List (Int×List Int)):Mv ((i:Int)+1) l=l.getD i (0,[]):=by
 unfold Mv;rw[show ((i:Int)+1-1).toNat=i by omega]
def Bqe(k:Cv)(S:Bo)(v:Dh)(r s:Int)(w:TW)(h:Bz k S v w):Calls prog 282 #[.q k.B 10,.i r,.i s] w fun e A=>e=.r (.i (Vr r s S.objs))/\A=w:=by
 have c:=Zm k S v r s w h;have C:=h.sees.c10;unfold Vr;cases b:Jm r s S.objs with
 | false =>
  rw[b]at c;rw[Pf Fr];clear h b;go_in;go_wp2_with fail;refine Qm c ?_;rintro D rfl;go_wp2;go_ret;exact⟨rfl,rfl⟩
 | true =>
  rw[b]at c;rw[Sp rfl];obtain⟨i,j,l,rfl,rfl,m⟩:=Ak.1 b;rw[Bgo,Bvn];obtain⟨g,p,L,F,G,I⟩:=h.rows.obj l;rw[p]at C;have N:(i:Int)<(S.objs.length:Int):=Bd;have O:=h.rows.ol;have f:=h.rows.flds i l;obtain⟨Q,V,t⟩:=Bg f;rw[t]at G f;obtain⟨Y,J,Z,z⟩:=Ai f Bd;have z0:=z j m;have e:(S.objs.getD i (0,[])).2.getD j 0=(S.objs.getD i (0,[])).2[j]:=by rw[Th,Ws m];rfl
  rw[e];have a0:(j:Int)<((S.objs.getD i (0,[])).2.length:Int):=Bd;clear h b I F p t f z e;generalize (S.objs.getD i (0,[])).2=K at *;generalize K[j]=x at *;subst J;go_in;go_wp2_with fail;refine Qm c ?_;rintro D rfl;go_wp2;go_ret;exact⟨rfl,rfl⟩
def Bg1{g n K:Nat}(h:Du w u (.s (.p g) n K) z)(B:j<z.length)(x:Int):Du (w.setCell (.a g j) (.i x)) u (.s (.p g) n K) (z.set j x)/\w.frozen? (.a g j)=false:=by
 obtain⟨C,⟨e,D⟩|⟨F,G,I,e,q,f,t,v,A,m⟩⟩:=h
 ·simp at e
 simp only[Value.slice.injEq,Option.some.injEq,Addr.mk.injEq,Bwb]at e;obtain⟨rfl,rfl,rfl⟩:=e;refine⟨⟨Fr,.inr ⟨g,K,_,Fr,q,Bq f _,by simpa using t,v,by simpa using A,?_⟩⟩,Bj f j⟩;simp only[B06]at m ⊢;rw[Bv7,Byj,<- m,Byn,Bzv]
def Dw.putF{k:Cv}{O:List Bh}{v:Dh}(h:Dw k A O z v w)(Z:k.Ok){f n c:Nat}(m:u<A.length)(hj:f<(A.getD u (0,[])).2.length) (B:v.ov.getD u (.s none 0 0)=.s (.p j) n c)(x:Int):Dw k (A.set u ((A.getD u (0,[])).1,(A.getD u (0,[])).2.set f x)) O z v (w.setCell (.a j f) (.i x)):=by
 have t:=h.flds u m;have C:(v.ov.getD u (.s none 0 0)).ownBlock=some j:=by rw[B];rfl
 have a2:=(t.lt j C).1;have a3:=(t.lt j C).2;have J:∃Q:TV,w.heap[j]?=some (.cells Q.toArray 3 (0,0)):=by
  rw[B]at t;obtain⟨_,⟨D,_⟩|⟨g',a4,a0,D,_,hg,_⟩⟩:=t
  ·simp at D
  simp only[Value.slice.injEq,Option.some.injEq,Addr.mk.injEq,Bwb]at D;obtain⟨rfl,_⟩:=D;exact⟨a0.toList,by simpa using hg⟩
 obtain⟨Q,J⟩:=J;have V:∀q,q≠j->(w.setCell (.a j f) (.i x)).heap[q]?=w.heap[q]?:=fun q l=>Bvg _ _ _ _ (by simpa using l);have F:∀{b e G n:Nat}{g:TX}{I:TV},w.ownsRow b e G g n I->g.ownBlock≠some j->(w.setCell (.a j f) (.i x)).ownsRow b e G g n I:=fun K L=>Gs K (fun q l=>V q (fun e=>L (e▸l)));have Y:∀{b e G n:Nat}{g:TX}{I:TV},w.ownsRow b e G g n I->e≠3->g.ownBlock≠some j:=fun K he L=>Gd K J he j L rfl;have a1:(A.set u ((A.getD u (0,[])).1,(A.getD u (0,[])).2.set f x)).map Prod.fst=A.map Prod.fst:=by
  rw[Byj];apply Bzy;intro q;rw[Bxi];by_cases e:u=q;·subst e;rw[Sp rfl,Sp (by simpa using m),Bv8,Th,Ws m];rfl
  rw[Pf e]
 have hB:=Z.Bs;refine⟨?_,by rw[Bv7];exact h.ovl,by rw[Bv7];exact h.obk,fun q l=>?_,F h.wait (Y h.wait Ck),h.wwf,F h.out (h.out_ne m C),h.nd,fun q h1 h2 h3=>?_,?_,?_⟩
 ·rw[Bv7,Bas _ _ _ a1];exact F h.objs (Y h.objs Ck)
 ·rw[Bv7]at l;by_cases e:q=u
  ·subst e;have N:(A.set q ((A.getD q (0,[])).1,(A.getD q (0,[])).2.set f x)).getD q (0,[])=((A.getD q (0,[])).1,(A.getD q (0,[])).2.set f x):=by
    rw[Th,Bx2 m];rfl
   rw[N,B];rw[B]at t;exact(Bg1 t hj x).1
  have N:(A.set u ((A.getD u (0,[])).1,(A.getD u (0,[])).2.set f x)).getD q (0,[])=A.getD q (0,[]):=by
   rw[Th,Bxw Bd,<- Th]
  rw[N];exact F (h.flds q l) (h.flds_ne m l Bd C)
 ·rw[V q Bd];exact h.keep q h1 h2 h3
 ·exact h.low.setCell Fm _
 simp[World.setCell];exact h.szs
def Bp9(k:Cv)(S:Bo)(v:Dh)(r s x:Int)(w:TW)(A:k.Ok)(h:Bz k S v w):Calls prog 283 #[.q k.B 10,.i r,.i s,.i x] w fun e I=>e=.r (.tuple #[])/\Bz k (S.withObjs (Tt r s x S.objs)) v I:=by
 have c:=Zm k S v r s w h;have J:=h.sees.c10;unfold Tt;cases b:Jm r s S.objs with
 | false =>
  rw[b]at c;rw[Pf Fr];clear b;go_in;go_wp2_with fail;refine Qm c ?_;rintro K rfl;go_wp2;go_end0;exact⟨rfl,h⟩
 | true =>
  rw[b]at c;rw[Sp rfl];obtain⟨i,j,t,rfl,rfl,z⟩:=Ak.1 b;rw[Bgo,Bvn,show ((i:Int)+1-1).toNat=i by omega];obtain⟨g,C,a0,L,N,O⟩:=h.rows.obj t;rw[C]at J;have a1:(i:Int)<(S.objs.length:Int):=Bd;have hl:=h.rows.ol;have f:=h.rows.flds i t;obtain⟨fa,fc,l⟩:=Bg f;have m:=f;rw[l]at N m;obtain⟨p,Q,a2,D⟩:=Ai m Bd;have z0:=D j z;have a3:(j:Int)<((S.objs.getD i (0,[])).2.length:Int):=Bd;subst Q;have zf:=(Bg1 m z x).2;have F:=h.rows.putF A t z l x;have V:p≠k.B:=by
   have Y:(v.ov.getD i (.s none 0 0)).ownBlock=some p:=by rw[l];rfl
   have:=(f.lt p Y).1;have:=A.Bs;omega
  have G:Bz k (S.withObjs (S.objs.set i ((S.objs.getD i (0,[])).1,(S.objs.getD i (0,[])).2.set j x))) v (w.setCell (.a p j) (.i x)):=by
   refine⟨?_,h.wf,F⟩;have b:=h.blk;unfold Mid at b ⊢;rw[Bvg _ _ _ _ (by simpa using Bxc V)];simpa[Bo.withObjs] using b
  have Z:=Bc G;clear b O L C l f m D F G h;generalize (S.objs.getD i (0,[])).2=fs at *;generalize fs[j]=x0 at *;go_in;go_wp2_with fail;refine Qm c ?_;rintro K rfl;go_wp2;go_end0;exact⟨rfl,Ba Z⟩
def Bh8{c n g m f:Nat}(h:w.ownsRow u c j (.s (.p g) n m) n e)(i:TX):(w.setCell (.a g f) i).ownsRow u c j (.s (.p g) n m) n (e.set f i):=by
 obtain⟨q,⟨l,D⟩|⟨F,G,I,l,t,v,z,A,B,C⟩⟩:=h
 ·simp at l
 simp only[Value.slice.injEq,Option.some.injEq,Addr.mk.injEq,Bwb,Byl]at l;obtain⟨rfl,rfl⟩:=l;refine⟨by simpa using q,.inr ⟨g,m,_,rfl,t,Bq v _,z,A,by simpa using B,?_⟩⟩;rw[<- C,Byn,Bzv]
def Bhe{α β:Type}{f:α->Option β}:∀(l:List α) (i:Nat) (y:α),(l.filterMap f).Nodup->(∀g,f y=some g->∀u∈l,f u≠some g)->((l.set i y).filterMap f).Nodup
 | [],_,_,h,_=>h
 | x::r,0,y,h,hy=>by
  rw[Byw];have p:(r.filterMap f).Nodup:=by
   cases c:f x with
   | none=>rw[Bxv c]at h;exact h
   | some z=>rw[Bw8 c]at h;exact(List.nodup_cons.1 h).2
  cases j:f y with
  | none=>rw[Bxv j];exact p
  | some g =>
   rw[Bw8 j];refine List.nodup_cons.2 ⟨fun m=>?_,p⟩;obtain⟨u,b,e⟩:=List.mem_filterMap.1 m;exact hy g j u (by simp[b]) e
 | x::r,i+1,y,h,hy=>by
  rw[Bwf];have q:∀g,f y=some g->∀u∈r,f u≠some g:=fun g s u b=>hy g s u (by simp[b]);cases c:f x with
  | none =>
   rw[Bxv c]at h ⊢;exact Bhe r i y h q
  | some z =>
   rw[Bw8 c]at h ⊢;obtain⟨t,v⟩:=List.nodup_cons.1 h;refine List.nodup_cons.2 ⟨fun m=>?_,Bhe r i y v q⟩;obtain⟨u,b,e⟩:=List.mem_filterMap.1 m;rcases Bw6 b with b|rfl
   ·exact t (List.mem_filterMap.2 ⟨u,b,e⟩)
   exact hy z e x Fr c
def Dh.setO(v:Dh)(i:Nat)(u:TX):Dh:=⟨v.oa,v.oc,v.wa,v.wc,v.xa,v.xc,v.ov.set i u⟩
def Dw.setF{k:Cv}{F:List Bh}{v:Dh}(h:Dw k A F z v w)(O:k.Ok){g:Nat}(G:u<A.length)(j:v.oa=some ⟨g,0,none⟩){i:TX}{C:TI} (Q:Du w k.w0.heap.size i C)(V:∀q,i.ownBlock=some q->∀x∈(Value.slice v.xa z.length v.xc::v.ov),x.ownBlock≠some q):Dw k (A.set u ((A.getD u (0,[])).1,C)) F z (v.setO u i) (w.setCell (.a g (u*2+1)) i):=by
 have m:=h.objs;rw[j]at m;have ho:(Value.slice (.p g) A.length v.oc).ownBlock=some g:=rfl;have D:∃I:TV,w.heap[g]?=some (.cells I.toArray 215 (0,0)):=by
  obtain⟨_,⟨t,_⟩|⟨g',a0,Y,t,_,j,_⟩⟩:=m
  ·simp at t
  simp only[Value.slice.injEq,Option.some.injEq,Addr.mk.injEq,Bwb]at t;obtain⟨rfl,_⟩:=t;exact⟨Y.toList,by simpa using j⟩
 obtain⟨I,D⟩:=D;have J:∀q,q≠g->(w.setCell (.a g (u*2+1)) i).heap[q]?=w.heap[q]?:=fun q c=>Bvg _ _ _ _ (by simpa using c);have B:∀{b e K n:Nat}{x:TX}{L:TV},w.ownsRow b e K x n L->e≠215->(w.setCell (.a g (u*2+1)) i).ownsRow b e K x n L:=fun N Z=>Gs N (fun q c=>J q (Gd N D Z q c));have hB:=O.Bs;have a1:=h.obk g (by rw[j];rfl);have a2:=h.ovl;have a3:=(m.lt g rfl).1;refine⟨?_,by simp[Dh.setO,h.ovl],by rw[Bv7];exact h.obk,fun q c=>?_,B h.wait Ck,h.wwf,B h.out Ck,?_,fun q h1 h2 h3=>?_,?_,?_⟩
 ·rw[Bv7];show (w.setCell (.a g (u*2+1)) i).ownsRow _ _ 2 (.s v.oa _ v.oc) _ (ocells _ (v.ov.set u i));rw[<- Bca A v.ov h.ovl u _ C i rfl G,j];exact Bh8 m i
 ·rw[Bv7]at c;show Du _ _ ((v.ov.set u i).getD q (.s none 0 0)) _;by_cases e:q=u;·subst e;rw[Th,Bx2 Bd,Th,Bx2 G];exact B Q Ck
  rw[Th,Bxw Bd,<- Th,Th (l:=A.set u _),Bxw Bd,<- Th];exact B (h.flds q c) Ck
 ·have:=Bhe (f:=Value.ownBlock) (Value.slice v.xa z.length v.xc::v.ov) (u+1) i h.nd V;rw[Bwf]at this;exact this
 ·rw[J q Bd];exact h.keep q h1 h2 h3
 ·exact h.low.setCell Fm _
 simp[World.setCell];exact h.szs
def Bp6(k:Cv)(S:Bo)(v:Dh)(r:Int)(f:TA)(j:Nat)(b:TI)(w:TW)(F:k.Ok)(h:Bz k S v w)(p:Du w k.w0.heap.size (.s f b.length j) b) (t:∀q,(Value.slice f b.length j).ownBlock=some q->∀x∈(Value.slice v.xa S.out.length v.xc::v.ov),x.ownBlock≠some q):Calls prog 280 #[.q k.B 10,.i r,.s f b.length j] w fun e G=>e=.r (.tuple #[])/\∃I,Bz k (S.withObjs (Tq r b S.objs)) I G:=by
 have l:=Bbi k S v r w h;have J:=h.sees.c10;unfold Tq;cases c:Nl r S.objs with
 | false =>
  rw[c]at l;rw[Pf Fr];clear c p t;go_in;go_wp2_with fail;refine Qm l ?_;rintro K rfl;go_wp2;go_end0;exact⟨rfl,v,h⟩
 | true =>
  rw[c]at l;rw[Sp rfl];obtain⟨i,z,rfl⟩:=Yt.1 c;rw[Bgo,show ((i:Int)+1-1).toNat=i by omega];obtain⟨g,m,Q,L,V,A⟩:=h.rows.obj z;have C:=h.rows.setF F z m p t;have Y:(i:Int)<(S.objs.length:Int):=Bd;have Z:=h.rows.ol;have a0:=A (i*2+1);have N:g≠k.B:=by
   have:=Gd h.rows.objs h.blk Ck g (by rw[m];rfl);exact this
  rw[m]at J;have D:Bz k (S.withObjs (S.objs.set i ((S.objs.getD i (0,[])).1,b))) (v.setO i (.s f b.length j)) (w.setCell (.a g (i*2+1)) (.s f b.length j)):=by
   refine⟨?_,h.wf,C⟩;have c:=h.blk;unfold Mid at c ⊢;rw[Bvg _ _ _ _ (by simpa using Bxc N)];simpa[Bo.withObjs,Jr,Hp,Dh.setO] using c
  have O:=Bc D;generalize v.ov.getD i (.s none 0 0)=a1 at *;clear c A L m C D h p t;go_in;go_wp2_with fail;refine Qm l ?_;rintro K rfl;go_wp2;go_end0;exact⟨rfl,_,Ba O⟩
def Tryz.infoObj:(prog.info? 215).map (fun i=>(i.zero,i.size,i.bytes))=some (some (.agg #[.i 0,.s none 0 0]),2,32):=Le
def Bz.drewN{k:Cv}{S:Bo}{v:Dh}(h:Bz k S v w)(b:k.Ok)(n:Nat):Bz k S v (w.drewN n):=h.gr b ⟨rfl,rfl,rfl,Wf _,fun _ _=>rfl⟩
def Bz.drew{k:Cv}{S:Bo}{v:Dh}(h:Bz k S v w)(b:k.Ok):Bz k S v w.drew:=h.gr b ⟨rfl,rfl,rfl,Wf _,fun _ _=>rfl⟩
def Dw.addO{k:Cv}{L:List Bh}{v:Dh}{b:TW}(h:Dw k A L z v w)(Y:k.Ok)(N:w.heap[k.B]?=some (.cells e.toArray 156 (0,0))){c:Int}{F:TA} (Z:b.ownsRow k.wE.heap.size 215 2 (.s F (A.length+1) u) (A.length+1) (ocells A v.ov++[.i c,.s none 0 0]))(p:w.grownBy b (Value.slice v.oa A.length v.oc).ownBlock) (a0:(Value.slice F (A.length+1) u).ownBlock=(Value.slice v.oa A.length v.oc).ownBlock\/(Value.slice F (A.length+1) u).ownBlock=some w.heap.size):Dw k (A++[(c,[])]) L z ⟨F,u,v.wa,v.wc,v.xa,v.xc,v.ov++[.s none 0 0]⟩ b/\b.heap[k.B]?=w.heap[k.B]?:=by
 have G:=h.objs;have a1:∀g,(Value.slice v.oa A.length v.oc).ownBlock=some g->∃e:TV,w.heap[g]?=some (.cells e.toArray 215 (0,0)):=fun g C=>by
  obtain⟨_,⟨I,_⟩|⟨g',a5,a2,I,_,p,_⟩⟩:=G
  ·rw[I]at C;simp[Value.ownBlock]at C
  rw[I]at C;simp only[Value.ownBlock,Option.some.injEq]at C;subst C;exact⟨a2.toList,by simpa using p⟩
 have J:∀{f m O n:Nat}{x:TX}{Q:TV},w.ownsRow f m O x n Q->m≠215->b.ownsRow f m O x n Q:=fun K he=>Gs K (fun q t=>p.block q (K.lt q t).2 (fun m=>by
  obtain⟨e,hc⟩:=a1 q m.symm;exact Gd K hc he q t rfl))
 have a6:=Y.Bs;have a3:=h.ovl;have a4:b.heap[k.B]?=w.heap[k.B]?:=p.block k.B (Pk N) (fun m=>Gd G N Ck k.B m.symm rfl);refine⟨⟨?_,by simp[h.ovl],fun j D=>?_,fun q t=>?_,J h.wait Ck,h.wwf,J h.out Ck,?_,fun q V h2 h3=>?_,?_,Bvv h.szs p.size⟩,a4⟩
 ·rw[Up,Bw0,Ys _ _ h.ovl];exact Z
 ·rw[Up,Bw0]at D;rcases a0 with m|m
  ·rw[m]at D;exact h.obk j D
  rw[m]at D;have:w.heap.size=j:=by simpa using D
  exact .inr (by rw[<- this];exact h.szs)
 ·rw[Up,Bw0]at t;by_cases m:q<A.length;·show Du _ _ ((v.ov++[Value.slice none 0 0]).getD q _) _;rw[Th,Bvy Bd,<- Th,Th (l:=A++_),Bvy m,<- Th];exact J (h.flds q m) Ck
  have eq:q=A.length:=Bd;subst eq;show Du _ _ ((v.ov++[Value.slice none 0 0]).getD _ _) _;rw[Th,Bvt Bd,Th (l:=A++_),Bvt Bd,a3];simp only[Byx,Bxq,Bz7];exact Bvl _ _ _ _
 ·have m:(Value.slice v.xa z.length v.xc::(v.ov++[.s none 0 0])).filterMap Value.ownBlock=(Value.slice v.xa z.length v.xc::v.ov).filterMap Value.ownBlock:=by
   rw[<- Bws,List.filterMap_append];simp[Value.ownBlock]
  rw[m];exact h.nd
 ·rw[p.block q (Bvm V h.szs) (fun m=>by rcases h.obk q m.symm with e'|e'<;>omega)];exact h.keep q V h2 h3
 exact⟨p.os.trans h.low.os,p.tape.trans h.low.tape,p.output.trans h.low.output,Bvv h.low.size p.size,
  fun q t=>(p.block q (Bvm t h.low.size) (fun m=>by have:=(G.lt q m.symm).1;omega)).trans (h.low.block q t)⟩
def Bgv(k:Cv)(S:Bo)(v:Dh)(c:Int)(w:TW)(b:k.Ok)(h:Bz k S v w)(g:S.objs.length<=1000)(j:k.room<=(S.objs.length:Int)-5):Calls prog 278 #[.q k.B 10,.i c] w fun e f=>e=.r (.tuple #[.i 0,.bool false])/\Bz k S v f:=by
 have l:=h.sees.c10;have m:=h.sees.c11;obtain⟨p,s⟩:=b.rm;go_in;go_wp2;go_quiet (fail);go_wp2;go_ret2;exact⟨rfl,h.drewN b _⟩
def Bqm(k:Cv)(S:Bo)(v:Dh)(f:Int)(w:TW)(b:k.Ok)(h:Bz k S v w)(a1:S.objs.length<=1000)(hr:¬k.room<=(S.objs.length:Int)-5):Calls prog 278 #[.q k.B 10,.i f] w fun e J=>e=.r (.tuple #[.i ((S.objs.length:Int)+1),.bool true])/\∃p,Bz k (S.withObjs (S.objs++[(f,[])])) p J:=by
 have a2:=h.sees.c10;have a3:=h.sees.c11;have a4:=h.sees.fr 10;obtain⟨r0,r1⟩:=b.rm;obtain⟨K,L,N,O,Q⟩:=Bv4 Tryz.infoObj;have a5:=h.rows.low.size;have t:Hid (Bz k S v w):=h;have V:=h.rows.objs;clear h;go_in;go_wp2;go_quiet (fail);rename_i nq;have l:=(Ba t).drewN b nq;have z:=l.rows.objs;have A:=Bc l;clear l V;go_wp2_with (at_builtin;refine Bxg _ rfl _ _ 146 rfl k.wE.heap.size 215 K _ 2 32 underlying146 L N O Q rfl Ck _ _ _ rfl (z.alloc _) ⟨w.heap.size,0,none⟩ 1 1 [.i f,.s none 0 0] rfl rfl ?c1 ?c2 ?c3 ?c4 ?c5 ?_)
 case c1=>exact Dv _ _ _ _ rfl
 case c2=>intro u C;simp at C;rcases C with rfl|rfl<;>rfl
 case c3=>unfold maxLen;omega
 case c4=>omega
 case c5=>simp;omega
 intro p Y m D _ F;obtain⟨Z,oc,rfl⟩:=Bg m;have c:=(Ba A).gr b (QN (O30 f none 0 0));obtain⟨G,I⟩:=c.rows.addO b c.blk m D (by simpa using F);have g:Mid Y k.B 156 (Jr k S.read S.objs.length v) S.now.cells (Hp v S.wait.length S.out.length S.ended S.status S.value S.steps):=I.trans c.blk;have a0:=g.front.cell (o:=0) (j:=10) rfl (by rw[Jc];omega);have a6:=g.free 10;have HM:=Bc g;have HR:=Bc G;have HW:=Bc c.wf;simp[Jr]at a0;clear g G c A t m D F I z;go_wp2;go_ret2;refine⟨rfl,⟨Z,oc,v.wa,v.wc,v.xa,v.xc,v.ov++[.s none 0 0]⟩,?_⟩;exact Bot (Ba HM) (Jc _ _ _ _) (Ba HW) b Bd _ rfl (by simp[Jr,Bo.withObjs]) rfl (Ba HR)
def Bis(c:Int)(w:TW)(f:0<=c)(g:c<=100):Calls prog 277 #[.i c] w fun e b=>e=.r (.i (c-2+1))/\b=w:=by
 go_in;go_wp2;go_ret;exact⟨rfl,rfl⟩
def Yl:∀(W:List Bh),(∀c∈W,Em c)->(W.flatMap Bh.cells).length=W.length*20
 | [],_=>rfl
 | c::r,h=>by
  rw[Bwj,Up,Yl r (fun x b=>h x (by simp[b])),(h c Fr).len,Bvo];omega
def Bp4{c n m f:Nat}{a:TA}{T:TV}(h:w.ownsRow u c j (.s a n f) n (e++T))(i:e.length=m*j)(p:m<=n)(C:0<n):w.ownsRow u c j (.s a m f) m e:=by
 obtain⟨D,⟨l,F⟩|⟨g,G,q,l,t,v,I,z,A,B⟩⟩:=h
 ·omega
 simp only[Value.slice.injEq,Byl]at l;obtain⟨rfl,rfl⟩:=l;refine⟨i,.inr ⟨g,f,q,rfl,t,v,Bd,z,A,?_⟩⟩;have:=congrArg (List.take (m*j)) B;rw[Bxu,Bx5 (Bze _ p),<- i,List.take_left]at this;rw[<- i];exact this
def Dw.last{k:Cv}{W:List Bh}{c:Bh}{v:Dh}(h:Dw k A (W++[c]) z v w):∃g,v.wa=some ⟨g,0,none⟩/\g<w.heap.size/\w.rangeAt g (W.length*20) c.cells/\W.length<v.wc/\v.wc<=maxLen:=by
 have b:=h.wait;obtain⟨g,l,m,_,p⟩:=Cf b Fr;have e:=Yl W (fun x q=>h.wwf x (by simp[q]));refine⟨g,l,m,fun j u f=>?_,?_⟩
 ·have C:=(List.getElem?_eq_some_iff.1 f).1;rw[p _ (by rw[Bwl,Up,e];simp;omega),Bwl,Bvt Bd,e,show W.length*20+j-W.length*20=j by omega];simpa using f
 obtain⟨_,⟨_,s⟩|⟨D,F,G,i,_,_,t,B,_⟩⟩:=b
 ·simp at s
 simp only[Value.slice.injEq]at i;obtain⟨_,_,rfl⟩:=i;simp at t;exact⟨Bd,B⟩
def Dw.drop{k:Cv}{W:List Bh}{c:Bh}{v:Dh}(h:Dw k A (W++[c]) z v w):Dw k A W z v w:=by
 refine⟨h.objs,h.ovl,h.obk,h.flds,?_,fun x b=>h.wwf x (by simp[b]),h.out,h.nd,h.keep,h.low,h.szs⟩;have e:=h.wait;rw[Bwl]at e;exact Bp4 e (Yl W (fun x b=>h.wwf x (by simp[b]))) Fr Fr
def Bgu(k:Cv)(S:Bo)(v:Dh)(w:TW)(h:Bz k S v w)(b:S.wait=[]):Calls prog 252 #[.q k.B 0] w fun e f=>e=.r (.bool false)/\Bz k S v f:=by
 have c:=h.sees.c32;rw[b]at c;simp at c;clear b;go_in;go_wp2;go_ret;exact⟨rfl,h⟩
def Ad(k:Cv)(S:Bo)(v:Dh)(W:List Bh)(c:Bh)(w:TW)(A:k.Ok)(h:Bz k S v w)(m:S.wait=W++[c]):Calls prog 252 #[.q k.B 0] w fun e J=>e=.r (.bool true)/\Bz k ⟨S.read,S.objs,c,W,S.ended,S.out,S.status,S.value,S.steps⟩ v J:=by
 have p:=h.sees.c32;have f:=h.rows;rw[m]at p f;obtain⟨g,t,a0,K,a1,L⟩:=f.last;have b:Em c:=f.wwf c Fr;have C:=f.drop;have z:=h.blk;have N:S.wait.length=W.length+1:=by rw[m];simp
 rw[N]at z;have i:=So c.cells _ S.now.cells _ w (by rw[h.wf.len,b.len]) z;rw[Jc]at i;have D:=T7 k.B c.cells 12 w;have F:=C.gr A h.blk D;have O:w.there k.B 12 c.cells.toArray.size:=h.blk.there (o:=12) rfl (by rw[h.wf.len];simp[b.len]);have Q:(prog.info? 152).map (·.size)=some c.cells.toArray.size:=by rw[Tryz.infoCall];simp[b.len]
 have V:(prog.info? 152).map (·.size)=some c.cells.length:=by rw[Tryz.infoCall];simp[b.len]
 have Y:=Bya (Ph c);have l:=Ve (j:=0) (S':=⟨S.read,S.objs,c,W,S.ended,S.out,S.status,S.value,S.steps⟩) (v':=v) i (Jc _ _ _ _) (M4 _ _ _ _ _ _ _) b A Bd (.s v.wa W.length v.wc) rfl rfl rfl F;have G:=i.tail.cell (o:=32) (j:=0) (by rw[Up,Jc,b.len]) (by rw[M4];omega);have zf:=i.free 32;have I:(Hp v (W.length+1) S.out.length S.ended S.status S.value S.steps)[0]?=some (.s v.wa (W.length+1) v.wc):=rfl;rw[I,t]at G;rw[t]at p l;simp only[Up,Bw0,Bzg]at p G l;have Z:=Bc l;have a2:v.wc<=9223372036854775807:=by unfold maxLen at L;omega
 clear i D F l z f C m t I h;go_in;go_wp2_with (first|(refine wpList_load_mid Hd 152 (.tmp 18) Hd g (W.length*20) Hd c.cells _ K Byy Hd V ?_)|(refine wpList_store_mid Hd 152 (.tmp 21) (.tmp 19) Hd k.B 12 c.cells.toArray Hd Hd O Q Y ?_))
 go_ret;exact⟨rfl,Ba Z⟩
def Aw (r:Option Nat):Int:=match r with
 | none=>0
 | some t=>(t:Int)
def Bib(k:Cv)(S:Bo)(v:Dh)(G:Int)(w:TW)(ok:k.Ok)(h:Bz k S v w)(hH:(k.E.meth S.now.meth).handlers.length<=1000/\∀x∈(k.E.meth S.now.meth).handlers,0<=x.target):Calls prog 285 #[.q k.B 0,.i G] w fun e I=>e=.r (.tuple #[.i (Aw (k.E.target G S.now)),.bool (k.E.target G S.now).isSome])/\Bl w I:=by
 have hm:=Re k S v S.now.meth w ok h;have d4:=h.sees.c12;have b6:=h.sees.c13;have c2:=h.sees.c2;have c3:=h.sees.c3;have hT:=h.rows.tree ok;have a6:=h.blk.lt;have b7:=ok.tl;unfold Ds.target;have eT:k.E.T=k.T:=rfl;rw[eT];generalize k.E.meth S.now.meth=M at *;generalize f:Hy k.T G S.now.pos M.handlers=r;have Z:Hid (Hy k.T G S.now.pos (M.handlers.drop 0)=r):=f;obtain⟨d5,b8⟩:=hH;have HM:=Bc hm;clear hm h f eT;go_in;go_wp2_with fail;refine(Ba HM).mono ?_;rintro e w1 ⟨m,rfl,hM,b9⟩;have b2:=hM.hs;have b4:=hM.hl;obtain⟨m1,m2,m3,m4,m5,m6,m7,m8,m9,ma,mb,mc,md,me,mf,mg,mh,mi⟩:=m;simp only at b2 b4;subst b4;simp only[PM.val];have c0:∀w:TW,(Instr.field 133 (.agg #[.i m1,.i m2,.s m3 m4 m5,.i m6,.i m7,.i m8,.i m9,.s ma mb mc,.s md M.handlers.length mf,.s mg mh mi]) 7).run prog w=.ok (.s md M.handlers.length mf) w:=fun _=>Le;clear HM hM;go_wp2;clear c0
 go_loopw [17] (fun i wr=>∃q:Nat,q<=M.handlers.length/\i=.i (q:Int)/\Hid (Hy k.T G S.now.pos (M.handlers.drop q)=r)/\Bl w1 wr)
  (fun i _=>M.handlers.length-(intOf i).toNat)
 case atStart=>exact⟨0,Bd,rfl,Z,Vm _ _⟩
 case round=>
  obtain⟨q,hq,rfl,Z,N⟩:=hrel;have O:=QB b9 N;by_cases z:q<M.handlers.length
  ·obtain⟨g,hg,a7,_,a4⟩:=Cf b2 Bd;have y0:=(N.cell (p:=.a g (q*4+0)) a7).trans ((a4 _ (De M.handlers q z 0 Bd).2).trans (De M.handlers q z 0 Bd).1);have y1:=(N.cell (p:=.a g (q*4+1)) a7).trans ((a4 _ (De M.handlers q z 1 Bd).2).trans (De M.handlers q z 1 Bd).1);have y2:=(N.cell (p:=.a g (q*4+2)) a7).trans ((a4 _ (De M.handlers q z 2 Bd).2).trans (De M.handlers q z 2 Bd).1);have y3:=(N.cell (p:=.a g (q*4+3)) a7).trans ((a4 _ (De M.handlers q z 3 Bd).2).trans (De M.handlers q z 3 Bd).1);have c1:=b8 _ (Bvh z);have hd:M.handlers.drop q=M.handlers[q]::M.handlers.drop (q+1):=by rw[Wr z]
   have f:=Ba Z;rw[hd,Hy]at f;generalize M.handlers[q]=x at *;obtain⟨A,D,l,t⟩:=x;simp only at y0 y1 y2 y3 c1 f;have d2:=(O.cell (p:=.a k.B 2) a6).trans c2;have d3:=(O.cell (p:=.a k.B 3) a6).trans c3;have c4:=(O.cell (p:=.a k.B 13) a6).trans b6;have a8:k.B<wr.heap.size:=Bvm a6 O.size;have c5:=hT.below O;have a9:=fun w=>Y4 ⟨A,D,l,t⟩ (S.now.pos:Int) w;have b0:=fun w hT=>N1 (ya:=k.ya) (yn:=k.lf.length) (yc:=k.yc) k.T k.tg k.tc G t w b7 hT;have qb:(q:Int)<(M.handlers.length:Int):=Bd;have c6:=N.alloc N.size (O19 A D l t);have CH:=Bf wr (O19 A D l t);subst hg;simp at y0 y1 y2 y3;clear a4 hd Z b2;have j:=Pk CH;obtain⟨Q,V,L,Y⟩:=cl4 CH;have a0:Bl wr (wr.alloc (O19 A D l t)):=QN _;have e2:=(a0.cell (p:=.a k.B 2) a8).trans d2;have e3:=(a0.cell (p:=.a k.B 3) a8).trans d3;have a1:=(a0.cell (p:=.a k.B 13) a8).trans c4;have c7:=c5.below a0;have J:k.B<(wr.alloc (O19 A D l t)).heap.size:=Bvm a8 a0.size;have b5:=QB O a0;have b1:Hid (Bl w1 (wr.alloc (O19 A D l t))):=c6;generalize c8:El ⟨A,D,l,t⟩ (S.now.pos:Int)=CV at *;generalize c9:Tr.within k.T G t=WI at *;clear c8 c9;have a2:=Bc (fun (_:Unit)=>f);clear f;go_wp2;generalize (wr.alloc (O19 A D l t))=wA at *;simp at Q V L Y;refine Bvz (S:=(fun I=>I.C wr.heap.size 0 (.i A)/\I.C wr.heap.size 1 (.i D)/\I.C wr.heap.size 2 (.i l)/\I.C wr.heap.size 3 (.i t)/\I.C k.B 13 (.i (S.now.pos:Int))/\I.C k.B 2 (.s (.p k.tg) k.T.length k.tc)/\I.C k.B 3 (.s k.ya k.lf.length k.yc))) Le ⟨Q,V,L,Y,a1,e2,e3⟩ (fun b=>?_);refine tq 0 (.agg #[.i A,.i D,.i l,.i t]) b ?_;refine tq 1 (.q k.B 0) b ?_;refine tq 2 (.q k.B 0) b ?_;refine tq 3 (.q k.B 12) b ?_;refine tq 4 (.q k.B 13) b ?_;refine tq 5 (.i (S.now.pos:Int)) b ?_;refine tr 6 fun K hK=>?_;go_simp;refine Qm (a9 _) ?_;intro w7 c
   try dsimp only
   clear b;refine hK.out _ _ ⟨QC c j Q,QC c j V,QC c j L,QC c j Y,QC c J a1,QC c J e2,QC c J e3⟩ (fun b=>?_);clear hK K
   try simp only[QX]
   have f:=Ba a2 ();clear a2;cases CV with
   | false =>
    rw[Bx0,Pf Fr]at f;have a3:=Bc f;clear f b0;refine tq 7 (.bool false) b ?_;refine tn 8 undef b ?_;refine tn 9 undef b ?_;refine tn 10 undef b ?_;refine tn 11 undef b ?_;refine tn 12 undef b ?_;refine tn 13 undef b ?_;refine tn 14 undef b ?_;refine tn 15 undef b ?_;refine tq 16 (.bool false) b ?_;refine Bv9 Le ?_ _;have a5:=(Ba b1).drew.trans (c.mono (Ba b1).size);clear b Q V L Y e2 e3 a1 a9;go_wp2;go_roundw
    case rel=>exact⟨q+1,Bd,Lt,a3,a5⟩
    case measure=>simp[intOf];omega
   | true =>
    rw[Bxn]at f;have a2:=Bc (fun (_:Unit)=>f);clear f;refine tq 7 (.bool true) b ?_;refine tq 8 (.q k.B 0) b ?_;refine tq 9 (.q k.B 0) b ?_;refine tq 10 (.q k.B 2) b ?_;refine tq 11 (.agg #[.s (.p k.tg) k.T.length k.tc,.s k.ya k.lf.length k.yc]) b ?_;refine tq 12 (.i G) b ?_;refine tq 13 (.q wr.heap.size 3) b ?_;refine tq 14 (.i t) b ?_;refine tr 15 fun K hK=>?_;go_simp;refine Qm (b0 _ ((show Dl wA.drew k.tg k.T from c7).below c)) ?_;intro w8 F
    try dsimp only
    clear b;refine hK.out _ _ ⟨QC F (QL c j) (QC c j Q),QC F (QL c j) (QC c j V),QC F (QL c j) (QC c j L),QC F (QL c j) (QC c j Y),QC F (QL c J) (QC c J a1),QC F (QL c J) (QC c J e2),QC F (QL c J) (QC c J e3)⟩ (fun b=>?_);clear hK K
    try simp only[QX]
    refine tq 16 (.bool WI) b ?_;refine Bv9 Le ?_ _;have f:=Ba a2 ();cases WI with
    | false =>
     rw[Pf Fr]at f;have a3:=Bc f;have a5:=(Ba b1).drew.trans (c.mono (Ba b1).size);have b3:=QB a5 F;clear b Q V L Y e2 e3 a1 a9 b0 f a2;go_wp2;go_roundw
     case rel=>exact⟨q+1,Bd,Lt,a3,b3⟩
     case measure=>simp[intOf];omega
    | true =>
     rw[Sp rfl]at f;have a3:Hid (Aw r=l/\r.isSome=true):=by
      unfold Hid;rw[<- f];exact⟨by show ((l.toNat:Nat):Int)=l;omega,rfl⟩
     have a5:=b5.drew.trans (c.mono b5.size);have b3:=QB a5 F;have d6:=QC F (QL c j) (QC c j L);clear b Q V L Y e2 e3 a1 a9 b0 f a2;go_wp2;go_ret2;refine⟨?_,b3⟩;rw[(Ba a3).1,(Ba a3).2];rfl
  have d0:q=M.handlers.length:=Bd;subst d0;have f:=Ba Z;rw[List.drop_length]at f;have d1:r=none:=f.symm;clear f Z;subst d1;go_wp2;go_ret2;exact⟨rfl,O⟩
def Cv.Ok.hm{k:Cv}(g:k.Ok)(n:Int):(k.E.meth n).handlers.length<=1000/\∀x∈(k.E.meth n).handlers,0<=x.target:=by
 unfold Ds.meth
 split
 ·exact⟨by simp[Eu],fun x c=>by simp[Eu]at c⟩
 split
 ·exact⟨by simp[Eu],fun x c=>by simp[Eu]at c⟩
 rename_i h i;have j:k.E.ms.length=k.lms.length:=by simp[Cv.E]
 have f:n.toNat<k.lms.length:=Bd;have e:k.E.ms.getD n.toNat Eu=k.lms[n.toNat].1:=by
  rw[Th];simp[Cv.E,f]
 rw[e];obtain⟨a,b⟩:=g.hn _ (Bvh f);exact⟨a,fun x c=>(b x c).1⟩
def Blw (k:Cv)(w:TW):Nat:=match w.cell? ⟨k.B,32,none⟩ with
 | some (.slice _ n _)=>n
 | _=>0
def Bz.wl{k:Cv}{S:Bo}{v:Dh}(h:Bz k S v w):Blw k w=S.wait.length:=by
 unfold Blw;rw[h.sees.c32]
def Blx:TX->Nat
 | .bool true=>1
 | _=>0
def Bcc(k:Cv)(S:Bo)(v:Dh)(o:Int)(w:TW)(s:k.Ok)(h:Bz k S v w):Calls prog 253 #[.q k.B 0,.i o] w fun e w'=>e=.r (.tuple #[])/\∃j,Bz k (M8 k.E o S) j w':=by
 have V:=V5 k S v o w h;unfold M8;generalize Id o S.objs=C at *;generalize Y:Jx k.E o C (S.wait.length+1) S=R;have l:=Bc Y;have Z:=fun S v w h=>Bib k S v C w s h (s.hm S.now.meth);have HT:=Bc Z;have m:=Bc h;clear Y Z h;go_in;go_wp2_with fail;refine Qm V ?_;rintro w1 rfl;go_wp2
 go_loopw [5] (fun b wr=>∃(f:Bo) (j:Dh),Hid (Bz k f j wr)/\((b=.bool true/\Hid (Jx k.E o C (f.wait.length+1) f=R))\/(b=.bool false/\Hid (f.fin 2 C=R))))
  (fun b wr=>Blx b*(1+Blw k wr))
 case atStart=>exact⟨S,v,m,.inl ⟨rfl,l⟩⟩
 case round=>
  clear l m V;obtain⟨f,j,m,⟨rfl,l⟩|⟨rfl,l⟩⟩:=hrel
  ·have z:=Ba m;have G:=Ba HT f j wr z;have g:=Ba l;rw[Jx]at g;have a0:=z.wl;cases L:k.E.target C f.now with
   | some t =>
    rw[L]at G g;simp only at g;have A:=Bc g;clear g l m;go_wp2_with fail;refine Qm G ?_;intro N I;have p:=z.gr s I;have a1:=Bm7 f.now o t k.B 12 156 _ _ N rfl p.wf p.blk;simp only[Aw,Option.isSome];go_wp2_with fail;refine Qm a1 ?_;rintro w3 ⟨h3,a2⟩;have D:=p.now s a2 (Br4 p.wf o t) h3;go_wp2;refine tb (.tuple #[]) (by simp[results,results253,go_sem]) ?_;exact⟨rfl,j,by rw[<- Ba A];exact D⟩
   | none =>
    rw[L]at G g;simp only at g;have z:=Ba m;cases F:f.wait.getLast? with
    | none =>
     rw[F]at g;simp only at g;have J:f.wait=[]:=by simpa using F
     have A:=Bc g;have K:=fun w h=>Bgu k f j w h J;clear g l m L F;go_wp2_with fail;refine Qm G ?_;intro N I;have p:=z.gr s I;simp only[Aw,Option.isSome];go_wp2_with fail;refine Qm (K _ p) ?_;intro w3 D;have O:=Bc D;go_wp2;go_roundw
     case rel=>exact⟨f,j,O,.inr ⟨rfl,A⟩⟩
     case measure=>simp[Blx];omega
    | some c =>
     rw[F]at g;simp only at g;have J:f.wait=f.wait.dropLast++[c]:=by
      have:=List.getLast?_eq_some_iff.1 F;obtain⟨ys,e⟩:=this;rw[e];simp
     have Q:f.wait.length=f.wait.dropLast.length+1:=by
      conv=>lhs;rw[J]
      simp
     rw[Q]at g;have A:=Bc g;have K:=fun w h=>Ad k f j _ c w s h J;generalize f.wait.dropLast=W at *;have HL:=Bc Q;clear g l m L F J Q;go_wp2_with fail;refine Qm G ?_;intro N I;have p:=z.gr s I;simp only[Aw,Option.isSome];go_wp2_with fail;refine Qm (K _ p) ?_;intro w3 D;have a3:=D.wl;have O:=Bc D;go_wp2;go_roundw
     case rel=>exact⟨_,j,O,.inl ⟨rfl,A⟩⟩
     case measure=>
      have:=Ba HL;simp[Blx,a0,a3];omega
  have z:=Ba m;have K:=Bbj k f j 2 C wr s z;have A:=l;clear l m HT;go_wp2_with fail;refine Qm K ?_;intro N p;go_wp2;go_end0;exact⟨rfl,j,by rw[<- Ba A];exact p⟩
def Il(k:Cv)(S:Bo)(v:Dh)(b:Int)(w:TW)(f:k.Ok)(h:Bz k S v w)(g:0<=b)(j:b<=100):Calls prog 242 #[.q k.B 0,.i b] w fun e l=>e=.r (.tuple #[])/\∃c,Bz k (Fw k.E b S) c l:=by
 have m:=Bis b w g j;have p:=Bcc k S v (b-2+1) w f h;unfold Fw;generalize M8 k.E (b-2+1) S=R at *;generalize b-2+1=o at *;clear h;go_in;go_wp2_with fail;refine Qm m ?_;rintro t rfl;go_wp2_with fail;refine Qm p ?_;rintro z ⟨c,s⟩;go_wp2;go_end0;exact⟨rfl,c,s⟩
def Pb(k:Cv)(S:Bo)(v:Dh)(w:TW)(b:k.Ok)(h:Bz k S v w):Calls prog 240 #[.q k.B 12] w fun e c=>e=.r (.i S.top)/\Bz k S.popped v c :=
 (Jp S.now k.B 12 156 _ _ w rfl h.wf h.blk).mono fun _ _ ⟨f,g,j⟩=>⟨f,h.now b j (Fu h.wf) g⟩
def Pa(k:Cv)(S:Bo)(v:Dh)(x:Int)(w:TW)(b:k.Ok)(h:Bz k S v w):Calls prog 238 #[.q k.B 12,.i x] w fun e c=>e=.r (.tuple #[])/\Bz k (S.push x) v c :=
 (Mm S.now x k.B 12 156 _ _ w rfl h.wf h.blk).mono fun _ _ ⟨f,g,j⟩=>⟨f,h.now b j (Md h.wf x) g⟩
def Dw.addX{k:Cv}{J:List Bh}{v:Dh}{b:TW}(h:Dw k A J z v w)(K:k.Ok)(L:w.heap[k.B]?=some (.cells e.toArray 156 (0,0))){x:Int}{l:TA} (ho:b.ownsRow k.w0.heap.size 3 1 (.s l (z.length+1) u) (z.length+1) (z.map (Value.int .i64)++[.i x]))(p:w.grownBy b (Value.slice v.xa z.length v.xc).ownBlock) (a0:(Value.slice l (z.length+1) u).ownBlock=(Value.slice v.xa z.length v.xc).ownBlock\/(Value.slice l (z.length+1) u).ownBlock=some w.heap.size):Dw k A J (z++[x]) ⟨v.oa,v.oc,v.wa,v.wc,l,u,v.ov⟩ b/\b.heap[k.B]?=w.heap[k.B]?:=by
 have D:=h.out;have a1:∀g,(Value.slice v.xa z.length v.xc).ownBlock=some g->∃e:TV,w.heap[g]?=some (.cells e.toArray 3 (0,0)):=fun g C=>by
  obtain⟨_,⟨G,_⟩|⟨g',a6,a2,G,_,p,_⟩⟩:=D
  ·rw[G]at C;simp[Value.ownBlock]at C
  rw[G]at C;simp only[Value.ownBlock,Option.some.injEq]at C;subst C;exact⟨a2.toList,by simpa using p⟩
 have N:∀{c f O n:Nat}{x:TX}{Q:TV},w.ownsRow c f O x n Q->f≠3->b.ownsRow c f O x n Q:=fun I he=>Gs I (fun q t=>p.block q (I.lt q t).2 (fun f=>by
  obtain⟨e,hc⟩:=a1 q f.symm;exact Gd I hc he q t rfl))
 have a7:=K.Bs;have a8:=h.ovl;have a3:b.heap[k.B]?=w.heap[k.B]?:=p.block k.B (Pk L) (fun f=>Gd D L Ck k.B f.symm rfl);refine⟨⟨N h.objs Ck,h.ovl,h.obk,fun q t=>?_,N h.wait Ck,h.wwf,?_,?_,fun q V h2 h3=>?_,?_,Bvv h.szs p.size⟩,a3⟩
 ·exact Gs (h.flds q t) (fun j Y=>p.block j ((h.flds q t).lt j Y).2 (fun f=>h.out_ne t Y f.symm))
 ·unfold Du;rw[Up,Bw0,Bvx];exact ho
 ·rw[Up,Bw0];rcases a0 with f|f
  ·have:(Value.slice l (z.length+1) u::v.ov).filterMap Value.ownBlock=(Value.slice v.xa z.length v.xc::v.ov).filterMap Value.ownBlock:=by
    simp only[List.filterMap_cons,f]
   show ((Value.slice l (z.length+1) u::v.ov).filterMap Value.ownBlock).Nodup;rw[this];exact h.nd
  show ((Value.slice l (z.length+1) u::v.ov).filterMap Value.ownBlock).Nodup;rw[Bw8 f];have F:=h.nd;refine List.nodup_cons.2 ⟨fun hm=>?_,?_⟩
  ·obtain⟨m,hu,a4⟩:=List.mem_filterMap.1 hm;obtain⟨i,hi,rfl⟩:=B02 hu;have a5:i<A.length:=Bd;have e2:v.ov.getD i (.s none 0 0)=v.ov[i]:=by rw[Th,Ws hi];rfl
   have:=((h.flds i a5).lt w.heap.size (by rw[e2];exact a4)).2;omega
  cases Z:(Value.slice v.xa z.length v.xc).ownBlock with
  | none=>rw[Bxv Z]at F;exact F
  | some y=>rw[Bw8 Z]at F;exact(List.nodup_cons.1 F).2
 ·rw[p.block q (Bvm V h.szs) (fun f=>by have:=(D.lt q f.symm).1;omega)];exact h.keep q V h2 h3
 exact⟨p.os.trans h.low.os,p.tape.trans h.low.tape,p.output.trans h.low.output,Bvv h.low.size p.size,
  fun q t=>(p.block q (Bvm t h.low.size) (fun f=>by have:=(D.lt q f.symm).1;have:=K.sz;omega)).trans (h.low.block q t)⟩
def Bqa(k:Cv)(S:Bo)(v:Dh)(w:TW)(f:k.Ok)(h:Bz k S v w)(a3:S.out.length<=100000):Calls prog 197 #[.q k.B 0] w fun e Y=>e=.r (.tuple #[])/\∃z,Bz k (Yb S) z Y:=by
 have A:=Pb k S v w f h;obtain⟨Z,hi,a0,a1,a2⟩:=Bv4 Tryz.infoInt;have e:Yb S=⟨S.popped.read,S.popped.objs,S.popped.now,S.popped.wait,S.popped.ended,S.out++[S.top],S.popped.status,S.popped.value,S.popped.steps⟩:=rfl;rw[e];generalize S.top=x at *;clear h e;go_in;go_wp2_with fail;refine Qm A ?_;intro g b;have a4:g.C k.B 34 (.s v.xa S.out.length v.xc):=b.sees.c34;have a5:=b.sees.fr 34;have a6:=b.rows.szs;have D:g.ownsRow k.w0.heap.size 3 1 (.s v.xa S.out.length v.xc) S.out.length (S.out.map (Value.int .i64)):=b.rows.out;have F:=Bc b;clear b A;go_wp2_with (at_builtin;refine Bxg _ rfl _ _ 26 rfl k.w0.heap.size 3 Z _ 1 8 Bxs hi a0 a1 a2 rfl Ck _ _ _ rfl (D.alloc _) ⟨g.heap.size,0,none⟩ 1 1 [.i x] rfl rfl ?c1 ?c2 ?c3 ?c4 ?c5 ?_)
 case c1=>exact Dv _ _ _ _ rfl
 case c2=>intro u G;simp at G;subst G;rfl
 case c3=>unfold maxLen;omega
 case c4=>omega
 case c5=>simp;omega
 intro z w2 m I _ J;obtain⟨p,t,rfl⟩:=Bg m;have c:=(Ba F).gr f (QN (O4 x));have K:(Value.slice p (S.out.length+1) t).ownBlock=(Value.slice v.xa S.out.length v.xc).ownBlock\/(Value.slice p (S.out.length+1) t).ownBlock=some (g.alloc (O4 x)).heap.size:=by simpa using J
 obtain⟨L,N⟩:=c.rows.addX f c.blk m I K;have l:Mid w2 k.B 156 (Jr k S.popped.read S.popped.objs.length v) S.popped.now.cells (Hp v S.popped.wait.length S.popped.out.length S.popped.ended S.popped.status S.popped.value S.popped.steps):=N.trans c.blk;have O:(Jr k S.popped.read S.popped.objs.length v++S.popped.now.cells).length=32:=by rw[Up,Jc,c.wf.len]
 have Q:=l.tail.cell (j:=2) O (by rw[M4];omega);have a7:=l.free 34;have V:(Hp v S.popped.wait.length S.popped.out.length S.popped.ended S.popped.status S.popped.value S.popped.steps)[2]?=some (.s v.xa S.out.length v.xc):=rfl;rw[V]at Q;simp only[Nat.reduceAdd]at Q;have HM:=Bc l;have HR:=Bc L;have HW:=Bc c.wf;clear l L c F m I J K N D V O;go_wp2;go_end0;refine⟨rfl,⟨v.oa,v.oc,v.wa,v.wc,p,t,v.ov⟩,?_⟩;exact Ve (j:=2) (Ba HM) (Jc _ _ _ _) (M4 _ _ _ _ _ _ _) (Ba HW) f Bd _ rfl rfl (by simp[Hp,Bo.popped,Bo.withNow]) (Ba HR)
def Bsl(k:Cv)(S:Bo)(v:Dh)(w:TW)(b:k.Ok)(h:Bz k S v w)(K:S.read<=100000):Calls prog 196 #[.q k.B 0] w fun e A=>e=.r (.tuple #[])/\Bz k (Ta k.E S) v A:=by
 have L:=h.sees.c9;have C:=h.sees.c5;have N:=h.sees.fr 9;have O:=b.il;have l:=h.rows.ints b;unfold Ta;have m:k.E.ins=k.ins:=rfl;rw[m];have Q:decide ((0:Int)<=(S.read:Int))=true:=Fr;by_cases c:S.read<k.ins.length
 ·rw[Sp c];obtain⟨g,o,D,V,Y⟩:=l S.read c;have F:decide ((S.read:Int)<(k.ins.length:Int))=true:=by simpa using c
  have G:decide (S.read<k.ins.length)=true:=by simpa using c
  have I:(S.read:Int)<(k.ins.length:Int):=Bd;rw[D]at C;generalize k.ins.getD S.read 0=x at *;have t:∀n,Bz k ⟨S.read+1,S.objs,S.now,S.wait,S.ended,S.out,S.status,S.value,S.steps⟩ v ((w.drewN n).setCell (.a k.B 9) (.i ((S.read:Int)+1))):=fun n=>(h.drewN b n).setPre b (j:=9) Bd _ rfl rfl rfl (h.drewN b n).rows;have f:∀n,_:=fun n=>Pa k _ v x _ b (t n);have p:=Bc f;clear h l m t f;go_in;go_wp2;go_quiet (fail);go_wp2;go_quiet (fail);go_wp2_with fail;refine Qm (Ba p _) ?_;intro J s;go_wp2;go_end0;exact⟨rfl,s⟩
 rw[Pf c];have F:decide ((S.read:Int)<(k.ins.length:Int))=false:=by simpa using c
 have G:decide (S.read<k.ins.length)=false:=by simpa using c
 have I:¬(S.read:Int)<(k.ins.length:Int):=Bd;have f:∀z,_:=fun z=>Pa k _ v 0 _ b (h.drewN b z);have p:=Bc f;clear h l m f;go_in;go_wp2;go_quiet (fail);go_wp2_with fail;refine Qm (Ba p _) ?_;intro J s;go_wp2;go_end0;exact⟨rfl,s⟩
def Bic(k:Cv)(S:Bo)(v:Dh)(op:Int)(w:TW)(c:k.Ok)(h:Bz k S v w):Calls prog 189 #[.q k.B 0,.i op] w fun e t=>e=.r (.tuple #[])/\∃g,Bz k (Nx k.E op S) g t:=by
 have p:=Pb k S v w c h;have s:=fun w h=>Pb k S.popped v w c h;have b:=fun w=>Bff op S.popped.top S.top w;have A:=fun x w h=>Pa k S.popped.popped v x w c h;have C:=fun w h=>Il k S.popped.popped v 2 w c h Bd Bd;unfold Nx;generalize S.popped.top=x at *;generalize S.top=y at *;clear h;cases f:Iu op x y with
 | none =>
  rw[f]at b;simp only[Option.getD_none,Bzp]at b;clear f;go_in;go_wp2_with fail;refine Qm p ?_;intro D j;go_wp2_with fail;refine Qm (s _ j) ?_;intro F l;go_wp2_with fail;refine Qm (b _) ?_;rintro G rfl;go_wp2_with fail;refine Qm (C _ l) ?_;rintro I ⟨g,m⟩;go_wp2;refine tb (.tuple #[]) (by simp[results,results189,go_sem]) ?_;exact⟨rfl,g,m⟩
 | some z =>
  rw[f]at b;simp only[Bz7,Option.isSome_some]at b;clear f;go_in;go_wp2_with fail;refine Qm p ?_;intro D j;go_wp2_with fail;refine Qm (s _ j) ?_;intro F l;go_wp2_with fail;refine Qm (b _) ?_;rintro G rfl;go_wp2_with fail;refine Qm (A z _ l) ?_;intro I m;go_wp2;go_end0;exact⟨rfl,v,m⟩
def Bcd(k:Cv)(S:Bo)(v:Dh)(w:TW)(f:k.Ok)(h:Bz k S v w):Calls prog 195 #[.q k.B 0] w fun e l=>e=.r (.tuple #[])/\∃b,Bz k (Jw k.E S) b l:=by
 have j:=Pb k S v w f h;have m:=fun w h=>Il k S.popped v 3 w f h Bd Bd;have p:=fun w h=>Bcc k S.popped v S.top w f h;unfold Jw;generalize S.top=x at *;clear h;by_cases c:x=0;·rw[Sp c];subst c;go_in;go_wp2_with fail;refine Qm j ?_;intro s g;go_wp2_with fail;refine Qm (m _ g) ?_;rintro t ⟨b,i⟩;go_wp2;refine tb (.tuple #[]) (by simp[results,results195,go_sem]) ?_;exact⟨rfl,b,i⟩
 rw[Pf c];have z:(x==0)=false:=by simp[c]
 clear c;go_in;go_wp2_with fail;refine Qm j ?_;intro s g;go_wp2_with fail;refine Qm (p _ g) ?_;rintro t ⟨b,i⟩;go_wp2;go_end0;exact⟨rfl,b,i⟩
def Big(k:Cv)(S:Bo)(v:Dh)(c:Int)(w:TW)(f:k.Ok)(h:Bz k S v w)(s:S.objs.length<=1000):Calls prog 243 #[.q k.B 0,.i c] w fun e A=>e=.r (.tuple #[])/\∃g,Bz k (Ny k.E c S) g A:=by
 unfold Ny;have t:k.E.room=k.room:=rfl;rw[t];clear t;by_cases b:k.room<=(S.objs.length:Int)-5;·rw[Sp b];have j:=Bgv k S v c w f h s b;have l:=fun w h=>Il k S v 5 w f h Bd Bd;clear h b;go_in;go_wp2_with fail;refine Qm j ?_;intro C m;go_wp2_with fail;refine Qm (l _ m) ?_;rintro D ⟨g,p⟩;go_wp2;refine tb (.tuple #[]) (by simp[results,results243,go_sem]) ?_;exact⟨rfl,g,p⟩
 rw[Pf b];have j:=Bqm k S v c w f h s b;have l:=fun v w h=>Pa k (S.withObjs (S.objs++[(c,[])])) v ((S.objs.length:Int)+1) w f h;clear h b;go_in;go_wp2_with fail;refine Qm j ?_;rintro C ⟨z,m⟩;go_wp2_with fail;refine Qm (l z _ m) ?_;intro D p;go_wp2;go_end0;exact⟨rfl,z,p⟩
def TyR.at2{b:TW}{i:TX}{q:TP}(h:TyR w i q)(m:∀j,i.ownBlock=some j->b.heap[j]?=w.heap[j]?):TyR b i q:=by
 rcases h with h|⟨g,o,c,p,f,s,t,z,A⟩
 ·exact .inl h
 have e:=m g (by rw[f];rfl);exact .inr ⟨g,o,c,p,f,e.trans s,t,z,fun j x B=>by rw[Bvj (a:=⟨g,o+j,none⟩) e];exact A j x B⟩
def TyR.blk_lt{i:TX}{q:TP}(h:TyR w i q)(b:i.ownBlock=some u):u<w.heap.size:=by
 rcases h with ⟨rfl,_⟩|⟨g,o,c,m,e,f,_⟩
 ·simp[Value.ownBlock]at b
 rw[e]at b;simp only[Value.ownBlock,Option.some.injEq]at b;rw[<- b];exact Pk f
def Dw.fldsIn{k:Cv}{g:List Bh}{v:Dh}(h:Dw k A g z v w)(e:k.Ok):Np w k.bf (.s k.ya k.lf.length k.yc) k.lf:=by
 obtain⟨a,b⟩:=e.fl;refine⟨Gs a (fun j c=>h.keep j (a.lt j c).2 (e.fB j c).1 (e.fB j c).2),fun p f=>(b p f).at2 (fun j c=>?_)⟩;obtain⟨x,y⟩:=e.fy p f j c;exact h.keep j ((b p f).blk_lt c) x y
def Bgk(n:Int):∀(b:List (List (Int×Int))) (c f:Int),(∀l∈b,l.length<=10)->0<=c->(Ec n b c f).1<=c+b.length/\-1<=(Ec n b c f).1/\0<=(Ec n b c f).2/\(Ec n b c f).2<=10
 | [],c,f,_,hc=>by simp[Ec];omega
 | l::r,c,f,h,hc=>by
  unfold Ec;have i:=h l Fr
  split
  ·rename_i e;obtain⟨j,m⟩:=e;simp only[Bvo];omega
  have:=Bgk n r (c+1) (f+(l.length:Int)) (fun x g=>h x (by simp[g])) Bd;simp only[Bvo];omega
def Bdt(T:TI)(j m:Nat)(l:List (Value×List (Int×Int)))(z:Nat)(ya:TA)(yc:Nat)(n:Int)(w:TW)(Q:l.length<=14)(V:T.length<=1000)(Y:0<=n/\n<=100000)(t:∀p∈l,p.2.length<=10)(Z:Dl w j T)(hF:Np w z (.s ya l.length yc) l):Calls prog 281 #[.agg #[.s (.p j) T.length m,.s ya l.length yc],.i n] w fun e b=>e=.r (.i (Je T (l.map Prod.snd) n))/\Bl w b:=by
 have C:=fun b (h:Bl w b)=>Bea (aa:=some ⟨j,0,none⟩) (an:=T.length) (ac:=m) l z ya yc n b Bd Y (fun p f=>by have:=t p f;omega) (hF.below h);have D:=fun c b (h:Bl w b)=>Bjc (aa:=some ⟨j,0,none⟩) (an:=T.length) (ac:=m) l z ya yc c b Bd (hF.below h);have F:=fun c b (h:Bl w b)=>Wc T j m l z ya yc c b Q V (fun p f=>by have:=t p f;omega) (Z.below h) (hF.below h);have J:=Bgk n (l.map Prod.snd) 0 0 (fun x hx=>by obtain⟨p,f,rfl⟩:=List.mem_map.1 hx;exact t p f) Bd;have G:∀c,(Dq T (l.map Prod.snd) c).length<=1000*14:=fun c=>by
  have:=Oh T (l.map Prod.snd) c (fun p f=>by obtain⟨q,hq,rfl⟩:=List.mem_map.1 f;have:=t q hq;omega) (l.map Prod.snd).length;unfold Dq;rw[Bvr]at this ⊢;omega
 have I:∀c,(Nh (l.map Prod.snd) c).length<=10:=fun c=>by
  unfold Nh
  split
  ·simp
  rw[Th];cases hg:(l.map Prod.snd)[c.toNat]? with
  | none=>simp
  | some x =>
   obtain⟨p,f,rfl⟩:=List.mem_map.1 (Bwv hg);exact t p f
 unfold Je;generalize Ec n (l.map Prod.snd) 0 0=oo at *;obtain⟨g,oi⟩:=oo;simp only at C J ⊢;obtain⟨-,b1,b2,b3⟩:=J;have A:Bl w (w.alloc (O2 (.p j) T.length m ya l.length yc)):=QN _;have a0:=Bf w (O2 (.p j) T.length m ya l.length yc);by_cases v:g = -1;·rw[Sp v];subst v;clear D F G I;go_in;go_wp2_with fail;refine Qb (C _ A) A ?_;intro w1 K B;go_wp2;go_ret;exact⟨rfl,B⟩
 rw[Pf v];have a5:(g == -1)=false:=by simp[v]
 have a6:=G g;have a7:=I g;have a1:=F g;have a2:=D g;clear v G I F D;generalize Dq T (l.map Prod.snd) g=FA at *;generalize Nh (l.map Prod.snd) g=FO at *;go_in;go_wp2_with fail;refine Qb (C _ A) A ?_;intro w1 K B;have L:=stay K a0;obtain⟨t0,t1⟩:=cl2 L;simp at t0 t1;go_wp2_with fail;refine(a1 _ B).mono ?_;rintro e w2 ⟨xa,xc,rfl,-,N⟩;have O:=QB B N;have C2:=stay N L;obtain⟨u0,u1⟩:=cl2 C2;simp at u0 u1;go_wp2_with fail;refine(a2 _ O).mono ?_;rintro e w3 ⟨za,zc,rfl,-,a3⟩;have a4:=QB O a3;go_wp2;go_ret;exact⟨rfl,a4⟩
def Bnj(k:Cv)(S:Bo)(v:Dh)(m:Int)(w:TW)(g:k.Ok)(h:Bz k S v w):Calls prog 247 #[.q k.B 0,.i m] w fun e L=>e=.r (.tuple #[])/\∃s,Bz k (Sk k.E m S) s L:=by
 have t:=Pb k S v w g h;have p:=fun w h=>V5 k S.popped v S.top w h;have z:=fun w h=>Pa k S.popped v S.top w g h;have j:=fun w h=>Il k S.popped v 4 w g h Bd Bd;have N:=g.tl;unfold Sk;have F:k.E.T=k.T:=rfl;have G:S.popped.objs=S.objs:=rfl;rw[F];rw[G]at p;generalize S.top=x at *;generalize Id x S.objs=c at *;have A:=fun w j=>N1 (ya:=k.ya) (yn:=k.lf.length) (yc:=k.yc) k.T k.tg k.tc c m w N j;clear h F G;by_cases l:x=0;·rw[Sp l];subst l;clear A j;go_in;go_wp2_with fail;refine Qm t ?_;intro I f;go_wp2_with fail;refine Qm (p _ f) ?_;rintro J rfl;go_wp2_with fail;refine Qm (z _ f) ?_;intro K O;go_wp2;go_end0;exact⟨rfl,v,O⟩
 rw[Pf l];have Z:(x != 0)=true:=by simp[l]
 clear l;generalize Tr.within k.T c m=b at *;cases b with
 | true =>
  rw[Sp rfl];clear j;go_in;go_wp2_with fail;refine Qm t ?_;intro I f;go_wp2_with fail;refine Qm (p _ f) ?_;rintro J rfl;have Q:=f.sees.c2;have V:=f.sees.c3;go_wp2_with fail;refine Qm (A _ (f.rows.tree g)) ?_;intro K C;go_wp2_with fail;refine Qm (z _ (f.gr g C)) ?_;intro Y D;go_wp2;go_end0;exact⟨rfl,v,D⟩
 | false =>
  rw[Pf Fr];clear z;go_in;go_wp2_with fail;refine Qm t ?_;intro I f;go_wp2_with fail;refine Qm (p _ f) ?_;rintro J rfl;have Q:=f.sees.c2;have V:=f.sees.c3;go_wp2_with fail;refine Qm (A _ (f.rows.tree g)) ?_;intro K C;go_wp2_with fail;refine Qm (j _ (f.gr g C)) ?_;rintro Y ⟨s,D⟩;go_wp2;refine tb (.tuple #[]) (by simp[results,results247,go_sem]) ?_;exact⟨rfl,s,D⟩
def Bfl(k:Cv)(S:Bo)(v:Dh)(n:Int)(w:TW)(b:k.Ok)(h:Bz k S v w)(G:0<=n/\n<=100000):Calls prog 245 #[.q k.B 0,.i n] w fun e I=>e=.r (.tuple #[])/\∃l,Bz k (Lp k.E n S) l I:=by
 have p:=Pb k S v w b h;have g:=fun w h=>Il k S.popped v 3 w b h Bd Bd;have t:=fun w g hF=>Bdt k.T k.tg k.tc k.lf k.bf k.ya k.yc n w b.f14 b.tl G b.ff g hF;have j:=fun s w h=>Bqe k S.popped v S.top s w h;have z:=fun x w h=>Pa k S.popped v x w b h;unfold Lp;have A:Je k.E.T k.E.FL n=Je k.T (k.lf.map Prod.snd) n:=rfl;have C:S.popped.objs=S.objs:=rfl;rw[A];rw[C]at j;generalize S.top=x at *;generalize Je k.T (k.lf.map Prod.snd) n=D at *;clear h A C;by_cases f:x=0;·rw[Sp f];subst f;clear t j z;go_in;go_wp2_with fail;refine Qm p ?_;intro J c;go_wp2_with fail;refine Qm (g _ c) ?_;rintro K ⟨l,m⟩;go_wp2;refine tb (.tuple #[]) (by simp[results,results245,go_sem]) ?_;exact⟨rfl,l,m⟩
 rw[Pf f];have N:(x==0)=false:=by simp[f]
 clear f g;have L:=j D;clear j;generalize Vr x D S.objs=y at *;go_in;go_wp2_with fail;refine Qm p ?_;intro J c;have O:=c.sees.c2;have Q:=c.sees.c3;go_wp2_with fail;refine Qm (t _ (c.rows.tree b) (c.rows.fldsIn b)) ?_;intro V F;go_wp2_with fail;refine Qm (L _ (c.gr b F)) ?_;rintro Y rfl;go_wp2_with fail;refine Qm (z _ _ (c.gr b F)) ?_;intro K m;go_wp2;go_end0;exact⟨rfl,v,m⟩
def Bfg(k:Cv)(S:Bo)(v:Dh)(n:Int)(w:TW)(b:k.Ok)(h:Bz k S v w)(F:0<=n/\n<=100000):Calls prog 246 #[.q k.B 0,.i n] w fun e G=>e=.r (.tuple #[])/\∃l,Bz k (Lo k.E n S) l G:=by
 have t:=Pb k S v w b h;have z:=fun w h=>Pb k S.popped v w b h;have g:=fun w h=>Il k S.popped.popped v 3 w b h Bd Bd;have A:=fun w g hF=>Bdt k.T k.tg k.tc k.lf k.bf k.ya k.yc n w b.f14 b.tl F b.ff g hF;have j:=fun s w h=>Bp9 k S.popped.popped v S.popped.top s S.top w b h;unfold Lo;have C:Je k.E.T k.E.FL n=Je k.T (k.lf.map Prod.snd) n:=rfl;have D:S.popped.popped.objs=S.objs:=rfl;rw[C];rw[D]at j;generalize S.popped.top=x at *;generalize S.top=y at *;generalize Je k.T (k.lf.map Prod.snd) n=I at *;clear h C D;by_cases f:x=0;·rw[Sp f];subst f;clear A j;go_in;go_wp2_with fail;refine Qm t ?_;intro J m;go_wp2_with fail;refine Qm (z _ m) ?_;intro K c;go_wp2_with fail;refine Qm (g _ c) ?_;rintro L ⟨l,p⟩;go_wp2;refine tb (.tuple #[]) (by simp[results,results246,go_sem]) ?_;exact⟨rfl,l,p⟩
 rw[Pf f];have Q:(x==0)=false:=by simp[f]
 clear f g;have N:=j I;clear j;go_in;go_wp2_with fail;refine Qm t ?_;intro J m;go_wp2_with fail;refine Qm (z _ m) ?_;intro K c;have V:=c.sees.c2;have Y:=c.sees.c3;go_wp2_with fail;refine Qm (A _ (c.rows.tree b) (c.rows.fldsIn b)) ?_;intro Z O;go_wp2_with fail;refine Qm (N _ (c.gr b O)) ?_;intro L p;go_wp2;go_end0;exact⟨rfl,v,p⟩
structure Tv(k:Cv)(S:Bo)(v:Dh)(w:World)(g n:Nat)(l:List Int):Prop where
 ints:Du w k.w0.heap.size (.slice (some ⟨g,0,none⟩) n n) l
 ne:∀x∈(Value.slice v.xa S.out.length v.xc::v.ov),x.ownBlock≠some g
 nB:g≠k.B
 len:l.length=n
def Ae(k:Cv)(S:Bo)(v:Dh)(f:TA)(n g:Nat)(w:TW)(m:k.Ok)(h:Bz k S v w)(t:n<=1000):Calls prog 248 #[.q k.B 12,.s f n g] w fun e b=>e=.r (.s (.p w.heap.size) n n)/\Tv k S v b w.heap.size n (I8 n S)/\Bz k (Gj n S) v b/\Gr k.B w b:=by
 refine(Bid S.now f n g k.B 12 156 _ _ w rfl h.wf t h.blk).mono fun e b ⟨z,A,C,j⟩=>⟨z,⟨D8 A h.rows.szs,?_,?_,Vz n S.now⟩,h.now m j (Bc6 n h.wf) C,j⟩
 ·intro x c l;rcases List.mem_cons.1 c with rfl|c
  ·have:=(h.rows.out.lt _ l).2;omega
  obtain⟨i,D,rfl⟩:=B02 c;have F:i<S.objs.length:=by have:=h.rows.ovl;omega
  have G:v.ov.getD i (.s none 0 0)=v.ov[i]:=by rw[Th,Ws D];rfl
  have:=((h.rows.flds i F).lt _ (by rw[G];exact l)).2;omega
 have:=h.blk.lt;omega
def Tv.gr{k:Cv}{S:Bo}{v:Dh}{b:TW}{n:Nat}(h:Tv k S v w u n z)(e:Gr k.B w b):Tv k S v b u n z :=
 ⟨Gs h.ints (fun j c=>by
  have:u=j:=by simpa[Value.ownBlock] using c
  exact e.blk (h.ints.lt j c).2 (by rw[<- this];exact h.nB)),h.ne,h.nB,h.len⟩
def Bc7(k:Cv)(S:Bo)(v:Dh)(c:Int)(w:TW)(b:k.Ok)(h:Bz k S v w):Calls prog 244 #[.q k.B 0,.i c] w fun e Q=>e=.r (.tuple #[])/\∃z,Bz k (Nk k.E c S) z Q:=by
 have c2:=h.sees.c2;have c3:=h.sees.c3;have hF:=Wc k.T k.tg k.tc k.lf k.bf k.ya k.yc c w b.f14 b.tl (fun p j=>by have:=b.ff p j;omega) (h.rows.tree b) (h.rows.fldsIn b);have a9:(Dq k.T (k.lf.map Prod.snd) c).length<=140:=by
  have:=Oh k.T (k.lf.map Prod.snd) c (fun p j=>by obtain⟨q,A,rfl⟩:=List.mem_map.1 j;have:=b.ff q A;omega);have V:∀d,d<=14->(Fb k.T (k.lf.map Prod.snd) c d).length<=10*d:=by
   intro d hd;clear this
   induction d with
   | zero=>simp[Fb]
   | succ d ih =>
    rw[Fb,Up];have F:=ih Bd;have l:(if Tr.within k.T c (d:Int)=true then (k.lf.map Prod.snd).getD d [] else []).length<=10:=by
     split
     ·rw[Th];cases Y:(k.lf.map Prod.snd)[d]? with
      | none=>simp
      | some x =>
       obtain⟨p,j,rfl⟩:=List.mem_map.1 (Bwv Y);exact b.ff p j
     simp
    omega
  have:=V (k.lf.map Prod.snd).length (by rw[Bvr];exact b.f14);unfold Dq;rw[Bvr]at this ⊢;have:=b.f14;omega
 unfold Nk;have G:Dq k.E.T k.E.FL c=Dq k.T (k.lf.map Prod.snd) c:=rfl;rw[G];generalize Dq k.T (k.lf.map Prod.snd) c=f at *;have Z:=fun w la lc h=>Ae k S v la f.length lc w b h Bd;have HA:=Bc h;clear h G;generalize a0:I8 f.length S=t at *;have I:(Gj f.length S).popped.objs=S.objs:=rfl;rw[<- I];have eX:(Gj f.length S).out=S.out:=rfl;generalize a1:Gj f.length S=g at *;clear a0 a1 I;generalize J:g.top=r at *;have a2:=Bc J;clear J;have a3:=fun fa fc w h C m=>Bp6 k g.popped v r fa fc t w b h C m;go_in;go_wp2_with fail;refine hF.mono ?_;rintro e D ⟨xa,xc,rfl,-,a4⟩;have F:=(Ba HA).gr b a4;go_wp2_with fail;refine Qm (Z _ _ _ F) ?_;rintro w2 ⟨m,l,-⟩;have a5:=Jp g.now k.B 12 156 _ _ w2 rfl l.wf l.blk;go_wp2_with fail;refine Qm a5 ?_;rintro K ⟨a6,L⟩;have h3:Bz k g.popped v K:=l.now b L (Fu l.wf) a6;have a7:=m.gr L;have N:=m.len;have C:Du K k.w0.heap.size (.s (.p D.heap.size) t.length f.length) t:=by rw[N];exact a7.ints
 have a8:∀q,(Value.slice (.p D.heap.size) t.length f.length).ownBlock=some q->∀x∈(Value.slice v.xa g.popped.out.length v.xc::v.ov),x.ownBlock≠some q:=fun q A x hx=>by
  have:D.heap.size=q:=by simpa[Value.ownBlock] using A
  rw[<- this];exact m.ne x (by rw[<- eX];exact hx)
 have O:=a3 _ _ _ h3 C a8;rw[N]at O;have e5:(Bw g.now).1=r:=Ba a2;rw[e5];go_wp2_with fail;refine Qm O ?_;rintro w4 ⟨z,h4⟩;go_wp2;go_end0;exact⟨rfl,z,h4⟩
def Bfm(k:Cv)(S:Bo)(v:Dh)(w:TW)(h:Bz k S v w)(b:S.wait=[]):Calls prog 252 #[.q k.B 0] w fun e f=>e=.r (.bool false)/\f=w:=by
 have c:=h.sees.c32;rw[b]at c;simp at c;clear b;go_in;go_wp2;go_ret;exact⟨rfl,rfl⟩
def Bfk(k:Cv)(S:Bo)(v:Dh)(w:TW)(l:k.Ok)(h:Bz k S v w):Calls prog 194 #[.q k.B 0] w fun e w'=>e=.r (.tuple #[])/\∃v',Bz k (Ki k.E S) v' w':=by
 have hm:=Re k S v S.now.meth w l h;have b3:=h.sees.c12;have HP:Hid (∀w,Bz k S v w->Calls prog 240 #[.q k.B 12] w fun e w'=>e=.r (.i S.top)/\Bz k S.popped v w'/\Gr k.B w w'):=fun w h =>
  (Jp S.now k.B 12 156 _ _ w rfl h.wf h.blk).mono fun e w' ⟨he,j,hg⟩=>⟨he,h.now l hg (Fu h.wf) j,hg⟩
 have HA:=Bc h;unfold Ki;generalize k.E.meth S.now.meth=M at *;have a8:=fun S w h z=>Bfm k S v w h z;have a9:=fun S W c w h z=>Ad k S v W c w l h z;have hF:=fun S x w h=>Bbj k S v 0 x w l h;have hU:=fun S x w h=>Pa k S v x w l h;have C:=Bc hm;have a4:=Bc a8;have b0:=Bc a9;have HF:=Bc hF;have HU:=Bc hU;clear hm h a8 a9 hF hU;have ew:S.popped.wait=S.wait:=rfl;by_cases D:M.result.1=0
 ·rw[Sp D];unfold Lq;cases z:S.wait.getLast? with
  | none =>
   have F:S.wait=[]:=by simpa using z
   simp only;have e:(if M.result.1=1 then (0:Int) else 0)=0:=by split<;>rfl
   rw[e];clear e z;go_in;go_wp2_with fail;refine(Ba C).mono ?_;rintro e p ⟨m,rfl,j,t⟩;have f:=j.r1;have g:=(Ba HA).gr l t;obtain⟨I,J,K,L,N,A,b,O,Q,V,Y,Z,md,me,mf,mg,mh,mi⟩:=m;simp only at f;rw[D]at f;subst f;simp only[PM.val];have a2:∀w:TW,(Instr.field 133 (.agg #[.i I,.i J,.s K L N,.i 0,.i b,.i O,.i Q,.s V Y Z,.s md me mf,.s mg mh mi]) 3).run prog w=.ok (.agg #[.i 0,.i b]) w:=fun _=>Le;have G:=g.gr l (QN (O7 0 b));have hK:=Bf p (O7 0 b);have a0:p.heap.size≠k.B:=by have:=g.blk.lt;omega
   clear j t g C;have y0:=Bb hK 0;simp at y0;go_wp2_with fail;refine Qm (Ba a4 _ _ G F) ?_;rintro w3 rfl;go_wp2_with fail;refine Qm (Ba HF _ _ _ G) ?_;intro w4 h4;go_wp2;go_end0;exact⟨rfl,v,h4⟩
  | some c =>
   have F:S.wait=S.wait.dropLast++[c]:=by
    obtain⟨ys,e⟩:=List.getLast?_eq_some_iff.1 z;rw[e];simp
   simp only;rw[Sp D];generalize S.wait.dropLast=W at *;have a5:=Bc F;clear z F;go_in;go_wp2_with fail;refine(Ba C).mono ?_;rintro e p ⟨m,rfl,j,t⟩;have f:=j.r1;have g:=(Ba HA).gr l t;obtain⟨I,J,K,L,N,A,b,O,Q,V,Y,Z,md,me,mf,mg,mh,mi⟩:=m;simp only at f;rw[D]at f;subst f;simp only[PM.val];have a2:∀w:TW,(Instr.field 133 (.agg #[.i I,.i J,.s K L N,.i 0,.i b,.i O,.i Q,.s V Y Z,.s md me mf,.s mg mh mi]) 3).run prog w=.ok (.agg #[.i 0,.i b]) w:=fun _=>Le;have G:=g.gr l (QN (O7 0 b));have hK:=Bf p (O7 0 b);have a0:p.heap.size≠k.B:=by have:=g.blk.lt;omega
   clear j t g C;go_wp2_with fail;refine Qm (Ba b0 _ _ _ _ G (Ba a5)) ?_;intro w3 h3;go_wp2;go_end0;exact⟨rfl,v,h3⟩
 rw[Pf D];have a6:(M.result.1 != 0)=true:=by simpa using D
 unfold Lq;rw[ew];cases z:S.wait.getLast? with
 | none =>
  have F:S.popped.wait=[]:=by rw[ew];simpa using z
  simp only;clear z;by_cases a1:M.result.1=1
  ·rw[Sp a1];have b1:=Bc a1;clear D a1;go_in;go_wp2_with fail;refine(Ba C).mono ?_;rintro e p ⟨m,rfl,j,t⟩;have f:=j.r1;have g:=(Ba HA).gr l t;obtain⟨I,J,K,L,N,A,b,O,Q,V,Y,Z,md,me,mf,mg,mh,mi⟩:=m;simp only at f;rw[Ba b1]at f a6;subst f;simp only[PM.val];have a2:∀w:TW,(Instr.field 133 (.agg #[.i I,.i J,.s K L N,.i 1,.i b,.i O,.i Q,.s V Y Z,.s md me mf,.s mg mh mi]) 3).run prog w=.ok (.agg #[.i 1,.i b]) w:=fun _=>Le;have G:=g.gr l (QN (O7 1 b));have hK:=Bf p (O7 1 b);have a0:p.heap.size≠k.B:=by have:=g.blk.lt;omega
   clear j t g C;go_wp2_with fail;refine Qm (Ba HP _ G) ?_;rintro w3 ⟨h3,a3⟩;have a7:=a3.own hK a0;have y0:=Bb a7 0;simp at y0;go_wp2_with fail;refine Qm (Ba a4 _ _ h3 F) ?_;rintro w4 rfl;go_wp2_with fail;refine Qm (Ba HF _ _ _ h3) ?_;intro w5 h5;go_wp2;go_end0;exact⟨rfl,v,h5⟩
  rw[Pf a1];have b2:(M.result.1==1)=false:=by simpa using a1
  clear D a1;go_in;go_wp2_with fail;refine(Ba C).mono ?_;rintro e p ⟨m,rfl,j,t⟩;have f:=j.r1;have g:=(Ba HA).gr l t;obtain⟨I,J,K,L,N,A,b,O,Q,V,Y,Z,md,me,mf,mg,mh,mi⟩:=m;simp only at f;rw[<- f]at a6 b2;clear f;simp only[PM.val];have a2:∀w:TW,(Instr.field 133 (.agg #[.i I,.i J,.s K L N,.i A,.i b,.i O,.i Q,.s V Y Z,.s md me mf,.s mg mh mi]) 3).run prog w=.ok (.agg #[.i A,.i b]) w:=fun _=>Le;have G:=g.gr l (QN (O7 A b));have hK:=Bf p (O7 A b);have a0:p.heap.size≠k.B:=by have:=g.blk.lt;omega
  clear j t g C;go_wp2_with fail;refine Qm (Ba HP _ G) ?_;rintro w3 ⟨h3,a3⟩;have a7:=a3.own hK a0;have y0:=Bb a7 0;simp at y0;go_wp2_with fail;refine Qm (Ba a4 _ _ h3 F) ?_;rintro w4 rfl;go_wp2_with fail;refine Qm (Ba HF _ _ _ h3) ?_;intro w5 h5;go_wp2;go_end0;exact⟨rfl,v,h5⟩
 | some c =>
  have F:S.popped.wait=S.wait.dropLast++[c]:=by
   obtain⟨ys,e⟩:=List.getLast?_eq_some_iff.1 z;rw[ew,e];simp
  simp only;rw[Pf D];generalize S.wait.dropLast=W at *;have a5:=Bc F;clear z F D;go_in;go_wp2_with fail;refine(Ba C).mono ?_;rintro e p ⟨m,rfl,j,t⟩;have f:=j.r1;have g:=(Ba HA).gr l t;obtain⟨I,J,K,L,N,A,b,O,Q,V,Y,Z,md,me,mf,mg,mh,mi⟩:=m;simp only at f;rw[<- f]at a6;clear f;simp only[PM.val];have a2:∀w:TW,(Instr.field 133 (.agg #[.i I,.i J,.s K L N,.i A,.i b,.i O,.i Q,.s V Y Z,.s md me mf,.s mg mh mi]) 3).run prog w=.ok (.agg #[.i A,.i b]) w:=fun _=>Le;have G:=g.gr l (QN (O7 A b));have hK:=Bf p (O7 A b);have a0:p.heap.size≠k.B:=by have:=g.blk.lt;omega
  clear j t g C;go_wp2_with fail;refine Qm (Ba HP _ G) ?_;rintro w3 ⟨h3,a3⟩;go_wp2_with fail;refine Qm (Ba b0 _ _ _ _ h3 (Ba a5)) ?_;intro w4 h4;go_wp2_with fail;refine Qm (Ba HU _ S.top _ h4) ?_;intro w5 h5;go_wp2;go_end0;exact⟨rfl,v,h5⟩
def Tryz.infoCall3:(prog.info? 152).map (fun i=>(i.zero,i.size,i.bytes))=some (some (.agg #[.i 0,.i 0,.i 0,.i 0,.i 0,.i 0,.i 0,.i 0,.i 0,.i 0,.i 0,.i 0,.i 0,.i 0,.i 0,.i 0,.i 0,.i 0,.i 0,.i 0]),20,160):=Le
def Bqd(b c e f g h i j l m q t v z A B C D F G:TX)(w:TW):(Instr.buildSlice 154 1 #[(0,.agg #[b,c,e,f,g,h,i,j,l,m,q,t,v,z,A,B,C,D,F,G])]).run prog w=.ok (.s (.p w.heap.size) 1 1) (w.alloc (.cells #[b,c,e,f,g,h,i,j,l,m,q,t,v,z,A,B,C,D,F,G] 152)):=Le
def Bvc(c:Array Value)(h:c.size=20):∃b e f g i j m p q s t v z A B C D F G I,c = #[b,e,f,g,i,j,m,p,q,s,t,v,z,A,B,C,D,F,G,I]:=by
 obtain⟨l⟩:=c;have J:l.length=20:=h
 match l,J with
 | [b,e,f,g,i,j,m,p,q,s,t,v,z,A,B,C,D,F,G,I],_=>exact⟨b,e,f,g,i,j,m,p,q,s,t,v,z,A,B,C,D,F,G,I,rfl⟩
def Bnf(c:Array Value)(h:c.size=20)(w:TW):(Instr.buildSlice 154 1 #[(0,.agg c)]).run prog w=.ok (.s (.p w.heap.size) 1 1) (w.alloc (.cells c 152)):=by
 obtain⟨b,e,f,g,i,j,l,m,q,t,v,z,A,B,C,D,F,G,I,J,rfl⟩:=Bvc c h;exact Bqd _ _ _ _ _ _ _ _ _ _ _ _ _ _ _ _ _ _ _ _ w
def Bdz(c:w.heap[u]?=some (.cells e.toArray g (0,0))):∀j b,e[j]?=some b->w.cell? ((⟨u,0,none⟩:Addr).add j)=some b:=fun j b f=>by
 rw[Addr.add_mid,Bvp,Bb c];simpa using f
def Bam{b:Array Oper}{o:Oper}{a:Act}{K:Act->TW->Prop}{Q:Exit->Act->TW->Prop}{E:Prop}(e:o.guard=none)(x:Operand)(f:o.op=.buildSlice 154 1 #[(0,x)]) (c:Array Value)(g:c.size=20)(i:a.eval x=.agg c)(h:K (a.put o.dst (.s (.p w.heap.size) 1 1)) (w.alloc (.cells c 152))):if Region.wanted o (yielded b a.tmps)=true then Oper.wp prog o a w K Q else E:=by
 have j:Region.wanted o (yielded b a.tmps)=true:=by simp[Region.wanted,e]
 rw[Sp j];have l:=Bnf c g w;unfold Oper.wp execOp;simp only[f,List.map_toArray,Bwm,Byz,i,B03,l,Bzz,B04];exact h
def Dw.addW{k:Cv}{W:List Bh}{v:Dh}{b:TW}(h:Dw k A W z v w)(J:k.Ok)(K:w.heap[k.B]?=some (.cells e.toArray 156 (0,0))){c:Bh}(D:Em c){l:TA}{wc:Nat} (Q:b.ownsRow k.w0.heap.size 152 20 (.s l (W.length+1) wc) (W.length+1) (W.flatMap Bh.cells++c.cells))(j:w.grownBy b (Value.slice v.wa W.length v.wc).ownBlock):Dw k A (W++[c]) z ⟨v.oa,v.oc,l,wc,v.xa,v.xc,v.ov⟩ b/\b.heap[k.B]?=w.heap[k.B]?:=by
 have C:=h.wait;have V:∀g,(Value.slice v.wa W.length v.wc).ownBlock=some g->∃e:TV,w.heap[g]?=some (.cells e.toArray 152 (0,0)):=fun g p=>by
  obtain⟨_,⟨F,_⟩|⟨g',a1,Y,F,_,j,_⟩⟩:=C
  ·rw[F]at p;simp[Value.ownBlock]at p
  rw[F]at p;simp only[Value.ownBlock,Option.some.injEq]at p;subst p;exact⟨Y.toList,by simpa using j⟩
 have G:∀{f i L n:Nat}{x:TX}{N:TV},w.ownsRow f i L x n N->i≠152->b.ownsRow f i L x n N:=fun I Z=>Gs I (fun q m=>j.block q (I.lt q m).2 (fun i=>by
  obtain⟨e,D⟩:=V q i.symm;exact Gd I D Z q m rfl))
 have a2:=J.Bs;have a0:b.heap[k.B]?=w.heap[k.B]?:=j.block k.B (Pk K) (fun i=>Gd C K Ck k.B i.symm rfl);refine⟨⟨G h.objs Ck,h.ovl,h.obk,fun q m=>G (h.flds q m) Ck,?_,fun x t=>?_,G h.out Ck,h.nd,fun q O h2 h3=>?_,?_,Bvv h.szs j.size⟩,a0⟩
 ·rw[Up,Bw0,Bwl];simpa using Q
 ·rcases List.mem_append.1 t with t|t
  ·exact h.wwf x t
  rw[List.mem_singleton.1 t];exact D
 ·rw[j.block q (Bvm O h.szs) (fun i=>by have:=(C.lt q i.symm).1;omega)];exact h.keep q O h2 h3
 exact⟨j.os.trans h.low.os,j.tape.trans h.low.tape,j.output.trans h.low.output,Bvv h.low.size j.size,
  fun q m=>(j.block q (Bvm m h.low.size) (fun i=>by have:=(C.lt q i.symm).1;have:=J.sz;omega)).trans (h.low.block q m)⟩
def Bfh(k:Cv)(S:Bo)(v:Dh)(m:Int)(x:TX)(w:TW)(f:k.Ok)(h:Bz k S v w)(j:∃a n c,x=.s a n c)(z:S.wait.length<=1000)(A:k.depth<=(S.wait.length:Int)+1):Calls prog 249 #[.q k.B 0,.i m,x] w fun e l=>e=.r (.tuple #[])/\∃b,Bz k (Fw k.E 6 S) b l:=by
 obtain⟨C,D,F,rfl⟩:=j;have G:=h.sees.c32;have I:=h.sees.c7;have g:∀n,_:=fun n=>Il k S v 6 _ f (h.drewN f n) Bd Bd;have p:=Bc g;clear h g;go_in;go_wp2;go_quiet (fail);go_wp2_with fail;refine Qm (Ba p _) ?_;rintro J ⟨b,t⟩;go_wp2;refine tb (.tuple #[]) (by simp[results,results249,go_sem]) ?_;exact⟨rfl,b,t⟩
def Bfi(k:Cv)(S:Bo)(v:Dh)(m:Int)(l:TA)(p I:Nat)(c:TI)(w:TW)(A:k.Ok)(h:Bz k S v w)(O:Du w I (.s l c.length p) c)(c0:c.length<=1000)(a6:∀j,(Value.slice l c.length p).ownBlock=some j->j≠k.B/\(Value.slice v.wa S.wait.length v.wc).ownBlock≠some j)(hw:S.wait.length<=1000)(hd:¬k.depth<=(S.wait.length:Int)+1):Calls prog 249 #[.q k.B 0,.i m,.s l c.length p] w fun e Z=>e=.r (.tuple #[])/\∃v',Bz k (S.opened (Cn m c)) v' Z:=by
 have c1:=h.sees.c32;have c7:=h.sees.c7;obtain⟨i0,hi,c2,c3,c4⟩:=Bv4 Tryz.infoCall3;have D:=h.wf;have a0:S.now.cells.toArray.size=20:=by simp[D.len]
 have c5:(prog.info? 152).map (·.size)=some S.now.cells.length:=by rw[Tryz.infoCall];simp[D.len]
 have d5:=fun w=>Bnf S.now.cells.toArray a0 w;have HA:Hid (∀n,Bz k S v (w.drewN n)):=fun n=>h.drewN A n;have HX:=Bc O;have a7:=Bc a6;have a8:=fun w O=>Bat m l p c I w c0 O;have a9:=Bc a8;clear h O a6 a8;go_in;go_wp2;go_quiet (fail);rename_i nq;have t:=Ba HA nq;have F:(w.drewN nq).rangeAt k.B 12 S.now.cells:=t.blk.range rfl;have c6:=t.sees.c32;have a1:=t.rows.wait;have Q:Hid (Du (w.drewN nq) I (.s l c.length p) c):=Ba HX;have H1:=Bc t;have d6:=t.rows.szs;have d7:=t.blk.lt;clear HX HA t c1 c7;generalize w.drewN nq=wd at *;go_wp2;refine Bvz (S:=(fun Z=>Z.rangeAt k.B 12 S.now.cells)) Le F (fun b=>?_);refine tq 0 (.q k.B 0) b ?_;refine tq 1 (.q k.B 0) b ?_;refine tq 2 (.q k.B 0) b ?_;refine tq 3 (.q k.B 32) b ?_;refine tq 5 (.q k.B 0) b ?_;refine tq 6 (.q k.B 0) b ?_;refine tq 7 (.q k.B 12) b ?_;refine Byf (i:=8) (oi:=⟨_,_,_,_,_,_⟩) (v:=.agg S.now.cells.toArray) rfl Le Le Le (fun _ _ _ h=>h) (yieldsIf_load_mid Hd 152 (.tmp 27) Hd k.B 12 Hd S.now.cells _ (fun _ hS=>hS) Byy Hd c5) b ?_
 try simp only[QX]
 refine Bw7 (rs:=[4,9]) Le Fr ?_;refine Bv3 (o:=⟨_,_,_,_,_,_⟩) rfl (fun K f=>?_) (Bv3 (o:=⟨_,_,_,_,_,_⟩) rfl (fun K f=>?_) Bw2);go_simp;clear b;refine f.out _ _ F (fun b=>?_);clear f K
 try simp only[QX]
 refine tr 9 fun K f=>?_;refine Bam Hd _ Hd S.now.cells.toArray a0 Hd ?_;clear b;refine f.out _ _ (Bzj F _) (fun b=>?_);clear f K
 try simp only[QX]
 rotate_left
 refine Bam Hd _ Hd S.now.cells.toArray a0 Hd ?_;clear b;refine f.out _ _ (Bzj F _) (fun b=>?_);clear f K
 try simp only[QX]
 refine tr 4 fun K f=>?_;go_simp;clear b;refine f.out _ _ (Bzj F _) (fun b=>?_);clear f K
 try simp only[QX]
 all_goals
  refine tr 10 fun K f=>?_;refine Kn Hd _ _ _ Hd k.w0.heap.size 152 i0 _ 20 160 underlying154 hi c2 c3 c4 rfl Bd _ _ _ Hd (Gs a1 (fun j z=>Bvu _ _ _ (a1.lt j z).2)) ⟨wd.heap.size,0,none⟩ 1 1 S.now.cells Hd (by simp[D.len]) (Bdz (Bf wd.drew (.cells S.now.cells.toArray 152))) (Ph S.now) Mc Bd Fm ?_;intro v' g a2 a3 c8;obtain⟨J,L,rfl⟩:=Bg a2;have b0:Bl wd (wd.drew.alloc (.cells S.now.cells.toArray 152)):=(Vm _ _).drew.alloc (Wf _) _;have V:=(Ba H1).gr A b0;obtain⟨b1,b2⟩:=V.rows.addW A V.blk D a2 a3;have N:=(show Mid g k.B 156 _ _ _ from b2.trans V.blk);have b3:g.rangeAt k.B 12 S.now.cells:=N.range rfl;have z0:=N.tail.cell (o:=32) (j:=0) (by rw[Up,Jc,D.len]) (by rw[M4];omega);have zf:=N.free 32;have d8:g.C k.B 32 (.s v.wa S.wait.length v.wc):=z0;have b4:Du g I (.s l c.length p) c:=Gs (Ba Q) (fun j z=>(a3.block j (by have:=((Ba Q).lt j z).2;simp;omega) (fun e=>(Ba a7 j z).2 e.symm)).trans (Bvu _ _ _ ((Ba Q).lt j z).2));have a4:Bz k ⟨S.read,S.objs,S.now,S.wait++[S.now],S.ended,S.out,S.status,S.value,S.steps⟩ ⟨v.oa,v.oc,J,L,v.xa,v.xc,v.ov⟩ (g.setCell (.a k.B 32) (.s J (S.wait.length+1) L)):=Ve (j:=0) N (Jc _ _ _ _) (M4 _ _ _ _ _ _ _) D A Bd _ rfl rfl (by simp[Hp]) b1;have b5:Du (g.setCell (.a k.B 32) (.s J (S.wait.length+1) L)) I (.s l c.length p) c:=Gs b4 (fun j z=>Bvg _ _ _ _ (by simpa using (Ba a7 j z).1));have b6:=Bc a4;have b7:=Bc b5;have b8:(g.setCell (.a k.B 32) (.s J (S.wait.length+1) L)).rangeAt k.B 12 S.now.cells:=a4.blk.range rfl;clear a2 a3 c8 b0 V b1 b2 N z0 b4 a4 b5 b;refine f.out _ _ b3 (fun b=>?_);clear f K
  try simp only[QX]
  refine tq 11 (.q k.B 0) b ?_;refine tq 12 (.q k.B 32) b ?_;refine tr 13 fun K f=>?_;go_simp;clear b;refine f.out _ _ b8 (fun b=>?_);clear f K
  try simp only[QX]
  refine Bv9 Le ?_ _;clear F b3 b8 c6 a1 H1 Q;generalize c9:g.setCell (.a k.B 32) (.s J (S.wait.length+1) L)=w3 at *;clear c9;go_wp2_with fail;refine Qm (Ba a9 _ (Ba b7)) ?_;intro w4 d0;have G:=(Ba b6).gr A d0;have Y:=Sq m c;have d1:w4.there k.B 12 (Cn m c).cells.toArray.size:=G.blk.there (o:=12) rfl (by rw[G.wf.len];simp[Y.len]);have d2:(prog.info? 152).map (·.size)=some (Cn m c).cells.toArray.size:=by rw[Tryz.infoCall];simp[Y.len]
  have d3:=Bya (Ph (Cn m c));have a5:=So (Cn m c).cells _ _ _ w4 (by rw[G.wf.len,Y.len]) G.blk;rw[Jc]at a5;have b9:=G.now A (T7 k.B (Cn m c).cells 12 w4) Y a5;have d4:=Bc b9;clear b9 a5 G b6 b7 a9;go_wp2_with (refine wpList_store_mid Hd 152 (.tmp 38) (.tmp 36) Hd k.B 12 (Cn m c).cells.toArray Hd Hd d1 d2 d3 ?_)
  go_end0;exact⟨rfl,_,Ba d4⟩
def Cv.Ok.pm{k:Cv}(c:k.Ok)(n:Int):(k.E.meth n).params.length<=10:=by
 unfold Ds.meth
 split
 ·simp[Eu]
 split
 ·simp[Eu]
 rename_i f g;have h:k.E.ms.length=k.lms.length:=by simp[Cv.E]
 have b:n.toNat<k.lms.length:=Bd;have e:k.E.ms.getD n.toNat Eu=k.lms[n.toNat].1:=by
  rw[Th];simp[Cv.E,b]
 rw[e];exact c.ps _ (Bvh b)
def Bee(k:Cv)(S:Bo)(v:Dh)(m:Int)(g:TA)(l:Nat)(b:TI)(w:TW)(z:k.Ok)(h:Bz k S v w)(p:Du w k.w0.heap.size (.s g b.length l) b)(F:b.length<=1000)(A:S.wait.length<=1000):Calls prog 249 #[.q k.B 0,.i m,.s g b.length l] w fun e G=>e=.r (.tuple #[])/\∃I,Bz k (Hz k.E m b S) I G:=by
 unfold Hz;have J:k.E.depth=k.depth:=rfl;rw[J];by_cases f:k.depth<=(S.wait.length:Int)+1;·rw[Sp f];exact Bfh k S v m _ w z h ⟨_,_,_,rfl⟩ A f
 rw[Pf f];refine Bfi k S v m g l _ b w z h p F (fun j C=>⟨Gd p h.blk Ck j C,fun c=>?_⟩) A f;obtain⟨_,⟨t,_⟩|⟨D,O,K,t,_,L,_⟩⟩:=h.rows.wait
 ·rw[t]at c;simp[Value.ownBlock]at c
 rw[t]at c;simp only[Value.ownBlock,Option.some.injEq]at c;subst c;have N:w.heap[D]?=some (.cells K.toList.toArray 152 (0,0)):=by simpa using L
 exact Gd p N Ck D C rfl
def Bnk(k:Cv)(S:Bo)(v:Dh)(n:Int)(w:TW)(c:k.Ok)(h:Bz k S v w)(hw:S.wait.length<=1000):Calls prog 192 #[.q k.B 0,.i n] w fun e b=>e=.r (.tuple #[])/\∃f,Bz k (Vs k.E n S) f b:=by
 have hm:=Re k S v n w c h;have a7:=c.pm n;unfold Vs;generalize k.E.meth n=M at *;have HO:Hid (∀w l t,Bz k (Gj M.params.length S) v w->Du w k.w0.heap.size (.s l M.params.length t) (I8 M.params.length S)->Calls prog 249 #[.q k.B 0,.i n,.s l M.params.length t] w fun e b=>e=.r (.tuple #[])/\∃f,Bz k (Hz k.E n (I8 M.params.length S) (Gj M.params.length S)) f b):=by
  intro w l t h hx;have hl:(I8 M.params.length S).length=M.params.length:=Vz _ _;have:=Bee k (Gj M.params.length S) v n l t (I8 M.params.length S) w c h (by rw[hl];exact hx) Bd hw;rw[hl]at this;exact this
 have a2:Hid (∀w A D,Bz k S v w->Calls prog 248 #[.q k.B 12,.s A M.params.length D] w fun e b=>e=.r (.s (.p w.heap.size) M.params.length M.params.length)/\Tv k S v b w.heap.size M.params.length (I8 M.params.length S)/\Bz k (Gj M.params.length S) v b/\Gr k.B w b):=by
  intro w A D h;exact Ae k S v A M.params.length D w c h Bd
 have HA:=Bc h;have HM:=Bc hm;have a8:=h.blk.lt;clear h hm;go_in;go_wp2_with fail;refine(Ba HM).mono ?_;rintro e z ⟨m,rfl,hM,a0⟩;have F:=(Ba HA).gr c a0;have a1:=hM.pl;obtain⟨G,I,g,m4,j,J,K,L,N,O,Q,V,Y,Z,mf,mg,mh,mi⟩:=m;simp only at a1;subst a1;simp only[PM.val];have h2:=F.gr c (QN (O18 G I g M.params.length j J K L N O Q V Y Z mf mg mh mi));have CQ:=Bf z (O18 G I g M.params.length j J K L N O Q V Y Z mf mg mh mi);have a3:z.heap.size≠k.B:=by have:=F.blk.lt;omega
 have q2:=(Bb CQ 2).trans (show _=some (.s g M.params.length j) from rfl);have H2:=Bc h2;clear HM hM a0 F h2 HA;go_wp2;generalize z.alloc (O18 G I g M.params.length j J K L N O Q V Y Z mf mg mh mi)=wA at *
 go_region_held3 (fun b=>b.C z.heap.size 2 (.s g M.params.length j))
  (first|exact q2|exact(Bb (a4.own (show wA.drew.heap[_]?=_ from CQ) a3) 2).trans rfl)
  (first|(go_at_call 248;refine(Ba a2 _ _ _ ((Ba H2).drew c)).mono ?_;rintro e w7 ⟨rfl,a5,a6,a4⟩))
 clear q2 CQ;go_wp2_with fail;refine Qm (Ba HO _ _ _ a6 a5.ints) ?_;rintro w8 ⟨f,h8⟩;go_wp2;go_end0;exact⟨rfl,f,h8⟩
def Bgt(k:Cv)(S:Bo)(v:Dh)(j t:Int)(w:TW)(ok:k.Ok)(h:Bz k S v w):Calls prog 251 #[.q k.B 0,.i j,.i t] w fun e L=>e=.r (.i (k.E.nearest j t))/\Bl w L:=by
 have c1:=h.sees.c1;have c2:=h.sees.c2;have c3:=h.sees.c3;have hT:=h.rows.tree ok;have a3:=h.blk.lt;have b2:=ok.tl;have c0:=ok.ml;have b3:=Bc (h.rows.mths ok);have eE:k.E.nearest j t=Hl k.T j t (k.lms.map Prod.fst) 0 0 0:=rfl;rw[eE];generalize c:Hl k.T j t (k.lms.map Prod.fst) 0 0 0=r;have F:Hid (Hl k.T j t ((k.lms.map Prod.fst).drop 0) ((0:Nat):Int) 0 0=r):=c;generalize k.ma=MA at *;clear h c eE;go_in;go_wp2
 go_loopw [7,8,17] (fun fv hv iv wr=>∃(q:Nat) (f z:Int),q<=k.lms.length/\fv=.i f/\hv=.i z/\iv=.i (q:Int)/\Hid (Hl k.T j t ((k.lms.map Prod.fst).drop q) (q:Int) f z=r)/\Bl w wr)
  (fun _ _ i _=>k.lms.length-(intOf i).toNat)
 case atStart=>exact⟨0,0,0,Bd,rfl,rfl,rfl,F,Vm _ _⟩
 case round=>
  clear F;obtain⟨q,f,z,hq,rfl,rfl,rfl,F,G⟩:=hrel;have a5:=G.size;by_cases a6:q<k.lms.length
  ·have a7:=Ba b3;have a8:=a7.kp (Kp.of_below (e:=none) G) Ck Ck Ck Ck Ck;obtain⟨m,g,hg,c4,Et,hM⟩:=a8.mth a6;obtain⟨y0,y1,y2,y3,y4,y5,y6,y7,y8,y9⟩:=Ub Et;have a9:=hM.cl;have b0:=hM.nm;have hd:(k.lms.map Prod.fst).drop q=k.lms[q].1::(k.lms.map Prod.fst).drop (q+1):=by rw[Wr (by simpa using a6)];simp
   have c:=Ba F;rw[hd,Hl,<- a9,<- b0]at c;obtain⟨l,A,m3,m4,m5,m6,m7,m8,m9,ma,mb,mc,md,me,mf,mg,mh,mi⟩:=m;simp only at y0 y1 y2 y3 y4 y5 y6 y7 y8 y9 c;have d2:=(G.cell (p:=.a k.B 2) a3).trans c2;have d3:=(G.cell (p:=.a k.B 3) a3).trans c3;have a4:k.B<wr.heap.size:=Bvm a3 a5;have b1:=hT.below G;have a1:=fun w hT=>N1 (ya:=k.ya) (yn:=k.lf.length) (yc:=k.yc) k.T k.tg k.tc j l w b2 hT;have qb:(q:Int)<(k.lms.length:Int):=Bd;have N:Bl wr (wr.alloc (O18 l A m3 m4 m5 m6 m7 m8 m9 ma mb mc md me mf mg mh mi)):=QN _;have CH:=Bf wr (O18 l A m3 m4 m5 m6 m7 m8 m9 ma mb mc md me mf mg mh mi);have lH:=Pk CH;have I:=(Bb CH 0).trans (show _=some (.i l) from rfl);have O:=(Bb CH 1).trans (show _=some (.i A) from rfl);have Q:=(N.cell (p:=.a k.B 2) a4).trans d2;have V:=(N.cell (p:=.a k.B 3) a4).trans d3;have b4:=b1.below N;have lB:k.B<(wr.alloc (O18 l A m3 m4 m5 m6 m7 m8 m9 ma mb mc md me mf mg mh mi)).heap.size:=Bvm a4 N.size;have a2:Hid (Bl w (wr.alloc (O18 l A m3 m4 m5 m6 m7 m8 m9 ma mb mc md me mf mg mh mi))):=G.trans (N.mono a5);subst hg;generalize b5:Tr.within k.T j l=WI at *;clear Et hd F a7 a8 hM b5 a9 b0 N d2 d3 b1;obtain⟨a,b6⟩:∃a,(A==t)=a:=⟨_,rfl⟩;obtain⟨Y,b7⟩:∃Y,decide (z<=l)=Y:=⟨_,rfl⟩;rw[b6,b7]at c;have D:=Bc (fun (_:Unit)=>c);clear c;go_wp2;generalize (wr.alloc (O18 l A m3 m4 m5 m6 m7 m8 m9 ma mb mc md me mf mg mh mi))=wA at *;refine Bvz (S:=(fun L=>L.C wr.heap.size 0 (.i l)/\L.C wr.heap.size 1 (.i A)/\L.C k.B 2 (.s (.p k.tg) k.T.length k.tc)/\L.C k.B 3 (.s k.ya k.lf.length k.yc))) Le ⟨I,O,Q,V⟩ (fun b=>?_);refine tq 0 (.q wr.heap.size 1) b ?_;refine tq 1 (.i A) b ?_;refine tq 2 (.i t) b ?_;refine tq 3 (.bool a) b ?_;refine tq 4 (.bool a) b ?_;have c:=Ba D ();clear D;cases a with
   | false =>
    rw[Bx0,Pf Fr]at c;have J:Hid (Hl k.T j t ((k.lms.map Prod.fst).drop (q+1)) ((q+1:Nat):Int) f z=r):=c;clear c a1;refine tn 5 undef b ?_;refine tn 6 undef b ?_;refine tn 7 undef b ?_;refine tn 8 undef b ?_;refine tq 9 (.bool false) b ?_;refine tq 10 (.bool false) b ?_;refine tn 11 undef b ?_;refine tn 12 undef b ?_;refine tn 13 undef b ?_;refine tn 14 undef b ?_;refine tn 15 undef b ?_;refine tn 16 undef b ?_;refine tn 17 undef b ?_;refine tn 18 undef b ?_;refine tq 19 (.bool false) b ?_;refine Bv9 Le ?_ _;have Z:=(Ba a2).drew;clear b I O Q V;go_wp2;go_roundw
    case rel=>exact⟨q+1,f,z,Bd,rfl,rfl,Lt,J,Z⟩
    case measure=>simp[intOf];omega
   | true =>
    rw[Bxn]at c;have D:=Bc (fun (_:Unit)=>c);clear c;refine tq 5 (.q wr.heap.size 0) b ?_;refine tq 6 (.i l) b ?_;refine tq 7 (.i z) b ?_;refine tq 8 (.bool Y) b ?_;refine tq 9 (.bool Y) b ?_;refine tq 10 (.bool Y) b ?_;have c:=Ba D ();clear D;cases Y with
    | false =>
     rw[Bx0,Pf Fr]at c;have J:Hid (Hl k.T j t ((k.lms.map Prod.fst).drop (q+1)) ((q+1:Nat):Int) f z=r):=c;clear c a1;refine tn 11 undef b ?_;refine tn 12 undef b ?_;refine tn 13 undef b ?_;refine tn 14 undef b ?_;refine tn 15 undef b ?_;refine tn 16 undef b ?_;refine tn 17 undef b ?_;refine tn 18 undef b ?_;refine tq 19 (.bool false) b ?_;refine Bv9 Le ?_ _;have Z:=(Ba a2).drew;clear b I O Q V;go_wp2;go_roundw
     case rel=>exact⟨q+1,f,z,Bd,rfl,rfl,Lt,J,Z⟩
     case measure=>simp[intOf];omega
    | true =>
     rw[Bxn]at c;have D:=Bc (fun (_:Unit)=>c);clear c;refine tq 11 (.q k.B 0) b ?_;refine tq 12 (.q k.B 0) b ?_;refine tq 13 (.q k.B 2) b ?_;refine tq 14 (.agg #[.s (.p k.tg) k.T.length k.tc,.s k.ya k.lf.length k.yc]) b ?_;refine tq 15 (.i j) b ?_;refine tq 16 (.q wr.heap.size 0) b ?_;refine tq 17 (.i l) b ?_;refine tr 18 fun K hK=>?_;go_simp;refine Qm (a1 wA.drew (show Dl wA.drew k.tg k.T from b4)) ?_;intro w7 a0
     try dsimp only
     clear b;refine hK.out _ _ ⟨QC a0 lH I,QC a0 lH O,QC a0 lB Q,QC a0 lB V⟩ (fun b=>?_);clear hK K
     try simp only[QX]
     refine tq 19 (.bool WI) b ?_;refine Bv9 Le ?_ _;have c:=Ba D ();clear D;have Z:=(Ba a2).drew.trans (a0.mono (Ba a2).size);cases WI with
     | true =>
      rw[Sp rfl]at c;have J:Hid (Hl k.T j t ((k.lms.map Prod.fst).drop (q+1)) ((q+1:Nat):Int) (q:Int) l=r):=c;have c5:=QC a0 lH I;clear b I O Q V a1 c;go_wp2;go_roundw
      case rel=>exact⟨q+1,(q:Int),l,Bd,rfl,rfl,Lt,J,Z⟩
      case measure=>simp[intOf];omega
     | false =>
      rw[Pf Fr]at c;have J:Hid (Hl k.T j t ((k.lms.map Prod.fst).drop (q+1)) ((q+1:Nat):Int) f z=r):=c;clear c a1;clear b I O Q V;go_wp2;go_roundw
      case rel=>exact⟨q+1,f,z,Bd,rfl,rfl,Lt,J,Z⟩
      case measure=>simp[intOf];omega
  have b8:q=k.lms.length:=Bd;subst b8;have c:=Ba F;rw[List.drop_of_length_le Fr]at c;have b9:f=r:=c;clear c F;subst b9;go_wp2;go_ret;exact⟨rfl,G⟩
structure Ds.Small(E:Ds):Prop where
 cd:∀n,∀x∈(E.meth n).code,0<=x/\x<=255
 cl:∀n,(E.meth n).code.length<=1000
 hn:∀n,∀h∈(E.meth n).handlers,0<=h.target/\h.target<=1000
 rm:E.room<=30
 dp:E.depth<=12
structure Fl(E:Ds)(S:Bo):Prop where
 ob:S.objs.length<=35
 wt:S.wait.length<=12
 rd:S.read<=E.ins.length
 nx:S.now.next<=2000
 nw:∀c∈S.wait,c.next<=2000
def Fl.now{E:Ds}{S:Bo}(h:Fl E S){c:Bh}(b:c.next<=2000):Fl E (S.withNow c):=⟨h.ob,h.wt,h.rd,b,h.nw⟩
def Gk(v:Int)(c:Bh):(En v c).next=c.next:=by unfold En;split<;>rfl
def Lb(c:Bh):(Bw c).2.next=c.next:=by unfold Bw;split<;>rfl
def Bao(n v:Int)(c:Bh):(Ff n v c).next=c.next:=by
 unfold Ff
 split<;>first|rfl|(split<;>rfl)
def Bd3:∀(k:Nat) (c:Bh),(D6 k c).2.next=c.next
 | 0,_=>rfl
 | k+1,c=>(Bd3 k _).trans (Lb c)
def Bev:∀(l:TI) (i:Nat) (c:Bh),(La i l c).next=c.next
 | [],_,_=>rfl
 | _::r,i,_=>(Bev r (i+1) _).trans (Bao _ _ _)
def V0(m:Int)(b:TI):(Cn m b).next=0:=Bev b 0 _
def Fl.push{E:Ds}{S:Bo}(h:Fl E S)(v:Int):Fl E (S.push v):=h.now (by rw[Gk];exact h.nx)
def Fl.popped{E:Ds}{S:Bo}(h:Fl E S):Fl E S.popped:=h.now (by rw[Lb];exact h.nx)
def Fl.pops{E:Ds}{S:Bo}(h:Fl E S)(k:Nat):Fl E (Gj k S):=h.now (by rw[Bd3];exact h.nx)
def Fl.fin{E:Ds}{S:Bo}(h:Fl E S)(a b:Int):Fl E (S.fin a b):=⟨h.ob,h.wt,h.rd,h.nx,h.nw⟩
def Fl.objs{E:Ds}{S:Bo}(h:Fl E S)(b:A.length<=35):Fl E (S.withObjs A):=⟨b,h.wt,h.rd,h.nx,h.nw⟩
def Bdu{c:Int}:∀{l:List Rd.Hnd},(∀h∈l,0<=h.target/\h.target<=1000)->∀{t:Nat},Hy z c u l=some t->t<=1000
 | [],_,_,h=>by simp[Hy]at h
 | x::r,hl,t,h=>by
  unfold Hy at h
  split at h
  ·have:=hl x Fr;simp only[Option.some.injEq]at h;omega
  exact Bdu (fun y b=>hl y (by simp[b])) h
def Bdr{E:Ds}{S:Bo}(h:Fl E S){c:Bh}(b:S.wait.getLast?=some c):c.next<=2000/\S.wait.dropLast.length<=12/\∀x∈S.wait.dropLast,x.next<=2000:=by
 refine⟨h.nw c (List.mem_of_getLast? b),?_,fun x e=>h.nw x (List.dropLast_subset _ e)⟩;have:=h.wt;rw[List.length_dropLast];omega
def Zt{E:Ds}(f:E.Small)(o e:Int):∀(k:Nat) {S:Bo},Fl E S->Fl E (Jx E o e k S)
 | 0,_,h=>h
 | k+1,S,h=>by
  unfold Jx;cases g:E.target e S.now with
  | some t=>exact h.now (by have:=Bdu (f.hn _) (show Hy E.T e S.now.pos (E.meth S.now.meth).handlers=some t from g);show t<=2000;omega)
  | none =>
   cases i:S.wait.getLast? with
   | none=>exact h.fin _ _
   | some c =>
    obtain⟨a,b,d⟩:=Bdr h i;exact Zt f o e k ⟨h.ob,b,h.rd,a,d⟩
def Pe{E:Ds}(b:E.Small)(c:Int){S:Bo}(h:Fl E S):Fl E (Fw E c S):=Zt b _ _ _ h
def Baq{E:Ds}(e:E.Small)(m:Int)(f:TI){S:Bo}(h:Fl E S):Fl E (Hz E m f S):=by
 unfold Hz
 split
 ·exact Pe e _ h
 rename_i g;have:=e.dp;refine⟨h.ob,by show (S.wait++[S.now]).length<=12;simp;omega,h.rd,by show (Cn m f).next<=2000;rw[V0];omega,fun c b=>?_⟩
 rcases List.mem_append.1 b with b|b
 ·exact h.nw c b
 rw[List.mem_singleton.1 b];exact h.nx
def Be2{E:Ds}(r:Int×Int)(v:Int){S:Bo}(h:Fl E S):Fl E (Lq r v S):=by
 unfold Lq;cases e:S.wait.getLast? with
 | none=>exact h.fin _ _
 | some c =>
  obtain⟨a,b,d⟩:=Bdr h e;refine⟨h.ob,b,h.rd,?_,d⟩;show (if r.1=0 then c else En v c).next<=2000
  split
  ·exact a
  rw[Gk];exact a
def Bnb(op n:Int)(c:Bh):(J9 op n c).next=c.next:=by
 unfold J9;by_cases b:op=0;·rw[Sp b,Gk]
 rw[Pf b];by_cases e:op=1;·rw[Sp e,Gk]
 rw[Pf e];by_cases f:op=2;·rw[Sp f,Gk]
 rw[Pf f];by_cases g:op=3;·rw[Sp g,Bao,Lb]
 rw[Pf g];by_cases h:op=4;·rw[Sp h,Lb]
 rw[Pf h];by_cases i:op=5;·rw[Sp i,Gk,Gk,Lb]
 rw[Pf i];by_cases j:op=6;·rw[Sp j,Gk,Gk,Lb,Lb]
 rw[Pf j]
def Bix(op n:Int)(i:n<=255)(c:Bh)(b:c.next<=2000):(Hm op n c).next<=2000:=by
 have g:∀d:Bh,(Lu n.toNat d).next<=2000:=fun d=>by show n.toNat<=2000;omega
 unfold Hm;by_cases e:op=12
 ·rw[Sp e]
  split
  ·exact g _
  rw[Lb];exact b
 rw[Pf e];by_cases f:op=13
 ·rw[Sp f]
  split
  ·exact g _
  rw[Lb,Lb];exact b
 rw[Pf f];by_cases h:op=14
 ·rw[Sp h]
  split
  ·exact g _
  rw[Lb];exact b
 rw[Pf h];exact g _
def Bpp(r:Int)(b:TI)(l:List (Int×List Int)):(Tq r b l).length=l.length:=by unfold Tq;split<;>simp
def Bpz(r s v:Int)(l:List (Int×List Int)):(Tt r s v l).length=l.length:=by unfold Tt;split<;>simp
def Buu{E:Ds}(b:E.Small)(op n:Int)(B:n<=255){S:Bo}(h:Fl E S):Fl E (Ci E op n S):=by
 unfold Ci;by_cases c:op<=6;·rw[Sp c];exact h.now (by rw[Bnb];exact h.nx)
 rw[Pf c];by_cases e:op<=10
 ·rw[Sp e];unfold Nx;cases Iu op S.popped.top S.top with
  | none=>exact Pe b _ h.popped.popped
  | some z=>exact h.popped.popped.push z
 rw[Pf e];by_cases f:op<=14;·rw[Sp f];exact h.now (Bix op n B _ h.nx)
 rw[Pf f];by_cases g:op=15
 ·rw[Sp g];unfold Ny
  split
  ·exact Pe b _ h
  rename_i C;have:=b.rm;exact(h.objs Fm).push _
 rw[Pf g];by_cases i:op=16;·rw[Sp i];exact(h.pops _).popped.objs (by rw[Bpp];exact h.ob)
 rw[Pf i];by_cases j:op=17
 ·rw[Sp j];unfold Lp
  split
  ·exact Pe b _ h.popped
  exact h.popped.push _
 rw[Pf j];by_cases l:op=18
 ·rw[Sp l];unfold Lo
  split
  ·exact Pe b _ h.popped.popped
  exact h.popped.popped.objs (by rw[Bpz];exact h.ob)
 rw[Pf l];by_cases m:op=19
 ·rw[Sp m];unfold Sk
  split
  ·exact h.popped.push _
  split
  ·exact h.popped.push _
  exact Pe b _ h.popped
 rw[Pf m];by_cases p:op=20;·rw[Sp p];exact Baq b _ _ (h.pops _)
 rw[Pf p];by_cases q:op=21
 ·rw[Sp q];unfold Sj Pm
  split
  ·exact Pe b _ (h.pops _).popped
  exact Baq b _ _ (h.pops _).popped
 rw[Pf q];by_cases s:op=22
 ·rw[Sp s];unfold Ki
  split
  ·exact Be2 _ _ h
  exact Be2 _ _ h.popped
 rw[Pf s];by_cases t:op=23
 ·rw[Sp t];unfold Jw
  split
  ·exact Pe b _ h.popped
  exact Zt b _ _ _ h.popped
 rw[Pf t];by_cases v:op=24
 ·rw[Sp v];unfold Ta
  split
  ·rename_i C;exact Fl.push (S:=⟨S.read+1,S.objs,S.now,S.wait,S.ended,S.out,S.status,S.value,S.steps⟩) ⟨h.ob,h.wt,by show S.read+1<=_;omega,h.nx,h.nw⟩ _
  exact h.push _
 rw[Pf v];by_cases A:op=25;·rw[Sp A];exact⟨h.ob,h.wt,h.rd,by show (Bw S.now).2.next<=2000;rw[Lb];exact h.nx,h.nw⟩
 rw[Pf A];exact h
def Bgn{E:Ds}(e:E.Small)(c:Bh):0<=(Fy E c).op/\(Fy E c).op<=25/\0<=(Fy E c).n/\(Fy E c).n<=255/\0<=(Fy E c).place/\(Fy E c).place<=1000:=by
 unfold Fy Cd.one
 split
 ·rename_i f;obtain⟨i,g,j⟩:=f;have b:∀q,0<=(E.meth c.meth).code.getD q 0/\(E.meth c.meth).code.getD q 0<=255:=fun q=>by
   rw[Th];cases h:(E.meth c.meth).code[q]? with
   | none=>simp
   | some x=>exact e.cd _ x (Bwv h)
  have l:=e.cl c.meth;refine⟨(b _).1,g,?_,?_,by show (0:Int)<=(c.next:Int);omega,by show (c.next:Int)<=1000;omega⟩
  ·show 0<=(if Cd.wd ((E.meth c.meth).code.getD c.next 0)=2 then (E.meth c.meth).code.getD (c.next+1) 0 else 0)
   split
   ·exact(b _).1
   exact Byo _
  show (if Cd.wd ((E.meth c.meth).code.getD c.next 0)=2 then (E.meth c.meth).code.getD (c.next+1) 0 else 0)<=255
  split
  ·exact(b _).2
  omega
 exact⟨by simp[Cd.orZero],by simp[Cd.orZero],by simp[Cd.orZero],by simp[Cd.orZero],by simp[Cd.orZero],by simp[Cd.orZero]⟩
def Brb{E:Ds}(c:E.Small){S:Bo}(h:Fl E S):Fl E (Oc E S):=by
 obtain⟨_,_,_,_,a,b⟩:=Bgn c S.now;have e:=Cd.wd_bd (Fy E S.now).op;exact⟨h.ob,h.wt,h.rd,by show (Fy E S.now).place.toNat+Cd.wd (Fy E S.now).op<=2000;omega,h.nw⟩
def Bi7{E:Ds}(b:E.Small){S:Bo}(h:Fl E S):Fl E (Hh E S):=Buu b _ _ (Bgn b S.now).2.2.2.1 (Brb b h)
def Bf2(E:Ds)(e:Int):Fl E (Gv e):=⟨by simp[Gv],by simp[Gv],by simp[Gv],by show (Cn e []).next<=2000;rw[V0];omega,fun c b=>by simp[Gv]at b⟩
def Bm9(k:Cv)(S:Bo)(v:Dh)(n:Int)(w:TW)(b:k.Ok)(h:Bz k S v w)(hw:S.wait.length<=1000):Calls prog 193 #[.q k.B 0,.i n] w fun e c=>e=.r (.tuple #[])/\∃v',Bz k (Sj k.E n S) v' c:=by
 have hm:=Re k S v n w b h;have d9:=b.pm n;unfold Sj;generalize k.E.meth n=M at *;have a8:(I8 M.params.length S).length=M.params.length:=Vz _ _;have b5:Hid (∀w la lc,Bz k S v w->Calls prog 248 #[.q k.B 12,.s la M.params.length lc] w fun e c=>e=.r (.s (.p w.heap.size) M.params.length M.params.length)/\Tv k S v c w.heap.size M.params.length (I8 M.params.length S)/\Bz k (Gj M.params.length S) v c/\Gr k.B w c):=fun w la lc h=>Ae k S v la M.params.length lc w b h Bd;have eW:(Gj M.params.length S).popped.wait=S.wait:=rfl;generalize I8 M.params.length S=l at *;generalize Gj M.params.length S=S1 at *;have HP:Hid (∀w,Bz k S1 v w->Calls prog 240 #[.q k.B 12] w fun e c=>e=.r (.i S1.top)/\Bz k S1.popped v c/\Gr k.B w c):=fun w h =>
  (Jp S1.now k.B 12 156 _ _ w rfl h.wf h.blk).mono fun e c ⟨he,t,hg⟩=>⟨he,h.now b hg (Fu h.wf) t,hg⟩
 generalize S1.top=x at *;generalize S1.popped=S2 at *;have hT:=fun w h=>Il k S2 v 3 w b h Bd Bd;have hC:=fun w h=>V5 k S2 v x w h;have hN:=fun w h=>Bgt k S2 v (Id x S2.objs) M.name w b h;have hO:=fun m xa xc w h hx=>Bee k S2 v m xa xc (x::l) w b h hx Fm (by rw[eW];exact hw);obtain⟨i0,hi,c9,d0,d1⟩:=Bv4 Tryz.infoInt;unfold Pm;generalize Id x S2.objs=cl at *;generalize k.E.nearest cl M.name=nr at *;have HT:=Bc hT;have HC:=Bc hC;have HN:=Bc hN;have HO:=Bc hO;have HA:=Bc h;have HM:=Bc hm;have f0:=h.blk.lt;clear h hm hT hC hN hO eW;by_cases a2:x=0
 ·rw[Sp a2];subst a2;go_in;go_wp2_with fail;refine(Ba HM).mono ?_;rintro e A ⟨m,rfl,t,a3⟩;have G:=(Ba HA).gr b a3;have a4:=t.pl;have a5:=t.nm;obtain⟨I,m2,f,m4,g,J,K,L,N,O,Q,V,Y,Z,mf,mg,mh,mi⟩:=m;simp only at a4 a5;subst a4 a5;simp only[PM.val];have h2:=G.gr b (QN (O18 I M.name f M.params.length g J K L N O Q V Y Z mf mg mh mi));have D:=Bf A (O18 I M.name f M.params.length g J K L N O Q V Y Z mf mg mh mi);have a6:A.heap.size≠k.B:=by have:=G.blk.lt;omega
  have q2:=(Bb D 2).trans (show _=some (.s f M.params.length g) from rfl);have H2:=Bc h2;clear HM t a3 G h2 HA;go_wp2;generalize A.alloc (O18 I M.name f M.params.length g J K L N O Q V Y Z mf mg mh mi)=F at *
  go_region_held3 (fun c=>c.C A.heap.size 2 (.s f M.params.length g))
   (first|exact q2|exact(Bb (a7.own (show F.drew.heap[_]?=_ from D) a6) 2).trans rfl)
   (first|(go_at_call 248;refine(Ba b5 _ _ _ ((Ba H2).drew b)).mono ?_;rintro e w7 ⟨rfl,b6,a9,a7⟩))
  clear q2 D;go_wp2_with fail;refine Qm (Ba HP _ a9) ?_;rintro w8 ⟨h8,b0⟩;go_wp2_with fail;refine Qm (Ba HT _ h8) ?_;rintro w9 ⟨v',h9⟩;go_wp2;refine tb (.tuple #[]) (by simp[results,results193,go_sem]) ?_;exact⟨rfl,v',h9⟩
 rw[Pf a2];have f1:(x==0)=false:=by simp[a2]
 clear a2 HT;go_in;go_wp2_with fail;refine(Ba HM).mono ?_;rintro e A ⟨m,rfl,t,a3⟩;have G:=(Ba HA).gr b a3;have a4:=t.pl;have a5:=t.nm;obtain⟨I,m2,f,m4,g,J,K,L,N,O,Q,V,Y,Z,mf,mg,mh,mi⟩:=m;simp only at a4 a5;subst a4 a5;simp only[PM.val];have h2:=G.gr b (QN (O18 I M.name f M.params.length g J K L N O Q V Y Z mf mg mh mi));have D:=Bf A (O18 I M.name f M.params.length g J K L N O Q V Y Z mf mg mh mi);have a6:A.heap.size≠k.B:=by have:=G.blk.lt;omega
 have q2:=(Bb D 2).trans (show _=some (.s f M.params.length g) from rfl);have H2:=Bc h2;clear HM t a3 G h2 HA;go_wp2;generalize A.alloc (O18 I M.name f M.params.length g J K L N O Q V Y Z mf mg mh mi)=F at *
 go_region_held3 (fun c=>c.C A.heap.size 2 (.s f M.params.length g))
  (first|exact q2|exact(Bb (a7.own (show F.drew.heap[_]?=_ from D) a6) 2).trans rfl)
  (first|(go_at_call 248;refine(Ba b5 _ _ _ ((Ba H2).drew b)).mono ?_;rintro e w7 ⟨rfl,b6,a9,a7⟩))
 have b7:=a7.own (show F.drew.heap[_]?=_ from D) a6;clear q2 D;go_wp2_with fail;refine Qm (Ba HP _ a9) ?_;rintro w8 ⟨h8,b0⟩;have b8:=b0.own b7 a6;have q1:=(Bb b8 1).trans (show _=some (.i M.name) from rfl);have d2:=b6.gr b0;go_wp2_with fail;refine Qm (Ba HC _ h8) ?_;rintro w9 rfl;go_wp2_with fail;refine Qm (Ba HN _ h8) ?_;intro a0 b1;have b2:=h8.gr b b1;have b9:Du a0 k.w0.heap.size (.s (.p F.heap.size) M.params.length M.params.length) l:=Cx d2.ints (Kp.of_below (e:=none) b1) Ck;have d3:=b2.rows.szs;have d4:=World.ownsRow_lit (base:=k.w0.heap.size) (e:=3) (size:=1) a0 #[.i x] 1 d3 Mc rfl;have c1:Du (a0.alloc (O4 x)) k.w0.heap.size (.s (.p F.heap.size) M.params.length M.params.length) l:=Cx b9 (Kp.alloc (e:=none) a0 _) Ck;have d5:∀j u,(l.map (Value.int .i64))[j]?=some u->(a0.alloc (O4 x)).cell? ((⟨F.heap.size,0,none⟩:Addr).add j)=some u:=fun j u hu=>by
  obtain⟨_,⟨hv,_⟩|⟨g',f2,f3,hv,_,hg,_,_,_,d6⟩⟩:=c1
  ·simp at hv
  simp only[Value.slice.injEq,Option.some.injEq,Addr.mk.injEq,Bwb]at hv;obtain⟨rfl,_,_⟩:=hv;rw[Addr.add_mid,Bvp,Bb hg,<- hu,<- d6,Bww,Sp (by have:=(List.getElem?_eq_some_iff.1 hu).1;simp at this ⊢;exact this)];simp
 clear b7 b8 b1 h8 b9 c1;go_wp2_with (at_builtin;refine Bxg _ rfl _ _ 26 rfl k.w0.heap.size 3 i0 _ 1 8 Bxs hi c9 d0 d1 rfl Ck _ _ _ rfl d4 ⟨F.heap.size,0,none⟩ M.params.length M.params.length (l.map (Value.int .i64)) rfl ?c0 d5 ?c2 ?c3 ?c4 ?c5 ?_)
 case c0=>simp[a8]
 case c2=>intro u hu;simp at hu;obtain⟨z,_,rfl⟩:=hu;rfl
 case c3=>unfold maxLen;omega
 case c4=>omega
 case c5=>simp;omega
 intro v' b3 b4 a1 _ d7;obtain⟨xa,xc,rfl⟩:=Bg b4;have c6:Bl a0 b3:=⟨a1.os,a1.tape,a1.output,Bvv Fr a1.size,fun j hj=>(a1.block j Fm (by simp[Value.ownBlock];omega)).trans (Bvu _ _ _ hj)⟩;have c7:=b2.gr b c6;have c8:Du b3 k.w0.heap.size (.s xa (x::l).length xc) (x::l):=by
  have e:(x::l).length=1+M.params.length:=by simp[a8];omega
  rw[e];unfold Du;rw[e];simpa using b4
 have hO:=Ba HO nr xa xc b3 c7 c8;have e:(x::l).length=1+M.params.length:=by simp[a8];omega
 rw[e]at hO;clear b4 a1 d7 c6 c7 c8 e b2;go_wp2_with fail;refine Qm hO ?_;rintro f4 ⟨v',d8⟩;go_wp2;go_end0;exact⟨rfl,v',d8⟩
def Rg(k:Cv)(S:Bo)(v:Dh)(p op n:Int)(w:TW)(b:k.Ok)(h:Bz k S v w)(l:15<=op/\op<=19)(g:0<=n/\n<=255)(j:S.objs.length<=1000):Calls prog 191 #[.q k.B 0,.agg #[.i p,.i op,.i n]] w fun e m=>e=.r (.tuple #[])/\∃f,Bz k (Ci k.E op n S) f m:=by
 rcases(show op=15\/op=16\/op=17\/op=18\/op=19 by omega) with rfl|rfl|rfl|rfl|rfl
 have c:=Big k S v n _ b (h.gr b (QN (O15 p 15 n))) j;rw[show Ci k.E 15 n S=Ny k.E n S from rfl]
 rotate_left
 have c:=Bc7 k S v n _ b (h.gr b (QN (O15 p 16 n)));rw[show Ci k.E 16 n S=Nk k.E n S from rfl]
 rotate_left
 have c:=Bfl k S v n _ b (h.gr b (QN (O15 p 17 n))) ⟨g.1,Bd⟩;rw[show Ci k.E 17 n S=Lp k.E n S from rfl]
 rotate_left
 have c:=Bfg k S v n _ b (h.gr b (QN (O15 p 18 n))) ⟨g.1,Bd⟩;rw[show Ci k.E 18 n S=Lo k.E n S from rfl]
 rotate_left
 have c:=Bnj k S v n _ b (h.gr b (QN (O15 p 19 n)));rw[show Ci k.E 19 n S=Sk k.E n S from rfl]
 rotate_left
 all_goals
  clear h l j;go_in;go_wp2_with fail;refine Qm c ?_;rintro t ⟨f,s⟩;go_wp2;go_end0;exact⟨rfl,f,s⟩
def Bnn(k:Cv)(S:Bo)(v:Dh)(p op n:Int)(w:TW)(f:k.Ok)(h:Bz k S v w)(g:0<=op/\op<=6)(j:0<=n/\n<=255):Calls prog 188 #[.q k.B 12,.agg #[.i p,.i op,.i n]] w fun e b=>e=.r (.tuple #[])/\Bz k (S.withNow (J9 op n S.now)) v b/\Gr k.B w b :=
 (Bne S.now p op n k.B 12 156 _ _ w rfl h.wf h.blk g j).mono fun _ _ ⟨l,m,c⟩=>⟨l,h.now f c (Bsi h.wf op n) m,c⟩
def Bin(k:Cv)(S:Bo)(v:Dh)(p op n:Int)(w:TW)(f:k.Ok)(h:Bz k S v w)(g:11<=op/\op<=14)(j:0<=n):Calls prog 190 #[.q k.B 12,.agg #[.i p,.i op,.i n]] w fun e b=>e=.r (.tuple #[])/\Bz k (S.withNow (Hm op n S.now)) v b/\Gr k.B w b :=
 (Bih S.now p op n k.B 12 156 _ _ w rfl h.wf h.blk g j).mono fun _ _ ⟨l,m,c⟩=>⟨l,h.now f c (Boo h.wf op n) m,c⟩
def Brg{E:Ds}{op n:Int}{S:Bo}(h:op<=6):Ci E op n S=S.withNow (J9 op n S.now):=by unfold Ci;rw[Sp h]
def Blp{E:Ds}{op n:Int}{S:Bo}(h:7<=op/\op<=10):Ci E op n S=Nx E op S:=by unfold Ci;rw[Pf Bd,Sp h.2]
def Blq{E:Ds}{op n:Int}{S:Bo}(h:11<=op/\op<=14):Ci E op n S=S.withNow (Hm op n S.now):=by unfold Ci;rw[Pf Bd,Pf Bd,Sp h.2]
structure Bc1(S:Bo):Prop where
 ob:S.objs.length<=1000
 wt:S.wait.length<=1000
 rd:S.read<=100000
 ou:S.out.length<=100000
def Bqh(k:Cv)(S:Bo)(v:Dh)(p op n:Int)(w:TW)(l:k.Ok)(h:Bz k S v w)(m:0<=op/\op<=14)(J:0<=n/\n<=255):Calls prog 133 #[.q k.B 0,.agg #[.i p,.i op,.i n]] w fun e b=>e=.r (.tuple #[])/\∃D,Bz k (Ci k.E op n S) D b:=by
 have K:=h.gr l (QN (O15 p op n));have c:=Bf w (O15 p op n);have L:=(Bb c 0).trans (show _=some (.i p) from rfl);have N:=(Bb c 1).trans (show _=some (.i op) from rfl);have O:=(Bb c 2).trans (show _=some (.i n) from rfl);have s:w.heap.size≠k.B:=by have:=h.blk.lt;omega
 have F:=Bc K;clear h K;by_cases t:op<=6
 ·rw[Brg t];have f:=fun w h=>Bnn k S v p op n w l h ⟨m.1,t⟩ J;have z:=Bc f;clear f;have G:(op==0)=true\/(op==0)=false/\((op==1)=true\/(op==1)=false/\((op==2)=true\/(op==2)=false/\((op==3)=true\/(op==3)=false/\((op==4)=true\/(op==4)=false/\((op==5)=true\/(op==5)=false/\((op==6)=true)))))):=Fm;clear t m;rcases G with Q|⟨Q,V|⟨V,Y|⟨Y,Z|⟨Z,b4|⟨b4,b5|⟨b5,b6⟩⟩⟩⟩⟩⟩
  all_goals
   go_in;go_wp2;generalize w.alloc (O15 p op n)=g at *
   go_region_held3 (fun b=>b.C w.heap.size 0 (.i p)/\b.C w.heap.size 1 (.i op)/\b.C w.heap.size 2 (.i n))
    (first|exact⟨L,N,O⟩|exact⟨(Bb (j.own (show g.drew.heap[_]?=_ from c) s) 0).trans rfl,(Bb (j.own (show g.drew.heap[_]?=_ from c) s) 1).trans rfl,(Bb (j.own (show g.drew.heap[_]?=_ from c) s) 2).trans rfl⟩)
    (first|(go_at_call 188;refine(Ba z _ ((Ba F).drew l)).mono ?_;rintro e w7 ⟨rfl,A,j⟩))
   go_wp2;go_end0;exact⟨rfl,v,A⟩
 by_cases I:op<=10
 ·rw[Blp ⟨Bd,I⟩];have f:=fun w h=>Bic k S v op w l h;have z:=Bc f;clear f;have a0:op=7\/op=8\/op=9\/op=10:=Bd;clear t m I;rcases a0 with rfl|rfl|rfl|rfl
  all_goals
   go_in;go_wp2_with fail;refine Qm (Ba z _ (Ba F)) ?_;rintro w7 ⟨D,A⟩;go_wp2;go_end0;exact⟨rfl,D,A⟩
 rw[Blq ⟨Bd,m.2⟩];have f:=fun w h=>Bin k S v p op n w l h ⟨Bd,m.2⟩ J.1;have z:=Bc f;clear f;obtain⟨Q,V,Y,Z,b4,b5,b6,b7,b8,b9,a4⟩:(op==0)=false/\(op==1)=false/\(op==2)=false/\(op==3)=false/\(op==4)=false/\(op==5)=false/\(op==6)=false/\(op==7)=false/\(op==8)=false/\(op==9)=false/\(op==10)=false:=Fm;have G:(op==11)=true\/(op==11)=false/\((op==12)=true\/(op==12)=false/\((op==13)=true\/(op==13)=false/\((op==14)=true))):=Fm;clear t m I;rcases G with a1|⟨a1,a2|⟨a2,a3|⟨a3,a5⟩⟩⟩
 all_goals
  go_in;go_wp2;generalize w.alloc (O15 p op n)=g at *
  go_region_held3 (fun b=>b.C w.heap.size 0 (.i p)/\b.C w.heap.size 1 (.i op)/\b.C w.heap.size 2 (.i n))
   (first|exact⟨L,N,O⟩|exact⟨(Bb (j.own (show g.drew.heap[_]?=_ from c) s) 0).trans rfl,(Bb (j.own (show g.drew.heap[_]?=_ from c) s) 1).trans rfl,(Bb (j.own (show g.drew.heap[_]?=_ from c) s) 2).trans rfl⟩)
   (first|(go_at_call 190;refine(Ba z _ ((Ba F).drew l)).mono ?_;rintro e w7 ⟨rfl,A,j⟩))
  go_wp2;go_end0;exact⟨rfl,v,A⟩
def Bsp(k:Cv)(S:Bo)(v:Dh)(w:TW)(c:k.Ok)(h:Bz k S v w)(f:S.read<=100000):Calls prog 196 #[.q k.B 0] w fun e g=>e=.r (.tuple #[])/\∃i,Bz k (Ta k.E S) i g :=
 (Bsl k S v w c h f).mono fun _ _ ⟨a,b⟩=>⟨a,v,b⟩
def Bqg(k:Cv)(S:Bo)(v:Dh)(p op n:Int)(w:TW)(b:k.Ok)(h:Bz k S v w)(j:15<=op/\op<=25)(f:0<=n/\n<=255)(hF:Bc1 S):Calls prog 133 #[.q k.B 0,.agg #[.i p,.i op,.i n]] w fun e l=>e=.r (.tuple #[])/\∃g,Bz k (Ci k.E op n S) g l:=by
 rcases(show op=15\/op=16\/op=17\/op=18\/op=19\/op=20\/op=21\/op=22\/op=23\/op=24\/op=25 by omega) with rfl|rfl|rfl|rfl|rfl|rfl|rfl|rfl|rfl|rfl|rfl
 have c:=Rg k S v p 15 n _ b (h.gr b (QN (O15 p 15 n))) Bd f hF.ob
 rotate_left
 have c:=Rg k S v p 16 n _ b (h.gr b (QN (O15 p 16 n))) Bd f hF.ob
 rotate_left
 have c:=Rg k S v p 17 n _ b (h.gr b (QN (O15 p 17 n))) Bd f hF.ob
 rotate_left
 have c:=Rg k S v p 18 n _ b (h.gr b (QN (O15 p 18 n))) Bd f hF.ob
 rotate_left
 have c:=Rg k S v p 19 n _ b (h.gr b (QN (O15 p 19 n))) Bd f hF.ob
 rotate_left
 have c:=Bnk k S v n _ b (h.gr b (QN (O15 p 20 n))) hF.wt;rw[show Ci k.E 20 n S=Vs k.E n S from rfl]
 rotate_left
 have c:=Bm9 k S v n _ b (h.gr b (QN (O15 p 21 n))) hF.wt;rw[show Ci k.E 21 n S=Sj k.E n S from rfl]
 rotate_left
 have c:=Bfk k S v _ b (h.gr b (QN (O15 p 22 n)));rw[show Ci k.E 22 n S=Ki k.E S from rfl]
 rotate_left
 have c:=Bcd k S v _ b (h.gr b (QN (O15 p 23 n)));rw[show Ci k.E 23 n S=Jw k.E S from rfl]
 rotate_left
 have c:=Bsp k S v _ b (h.gr b (QN (O15 p 24 n))) hF.rd;rw[show Ci k.E 24 n S=Ta k.E S from rfl]
 rotate_left
 have c:=Bqa k S v _ b (h.gr b (QN (O15 p 25 n))) hF.ou;rw[show Ci k.E 25 n S=Yb S from rfl]
 rotate_left
 all_goals
  clear h j hF;go_in;go_wp2_with fail;refine Qm c ?_;rintro s ⟨g,m⟩;go_wp2;go_end0;exact⟨rfl,g,m⟩
def Bsm(k:Cv)(S:Bo)(v:Dh)(p op n:Int)(w:TW)(b:k.Ok)(h:Bz k S v w)(c:0<=op/\op<=25)(f:0<=n/\n<=255)(hF:Bc1 S):Calls prog 133 #[.q k.B 0,.agg #[.i p,.i op,.i n]] w fun e g=>e=.r (.tuple #[])/\∃j,Bz k (Ci k.E op n S) j g:=by
 by_cases l:op<=14;·exact Bqh k S v p op n w b h ⟨c.1,l⟩ f
 exact Bqg k S v p op n w b h ⟨Bd,c.2⟩ f hF
def Cv.Ok.cm{k:Cv}(c:k.Ok)(n:Int):(k.E.meth n).code.length<=1000/\∀x∈(k.E.meth n).code,0<=x/\x<=255:=by
 unfold Ds.meth
 split
 ·simp[Eu]
 split
 ·simp[Eu]
 rename_i f g;have h:k.E.ms.length=k.lms.length:=by simp[Cv.E]
 have b:n.toNat<k.lms.length:=Bd;have e:k.E.ms.getD n.toNat Eu=k.lms[n.toNat].1:=by
  rw[Th];simp[Cv.E,b]
 rw[e];exact c.cd _ (Bvh b)
def Bkv(c:Bh)(l:TI)(I:TA)(J Z B o:Nat)(t:TypeId)(C K:TV)(w:TW)(j:C.length=o)(m:Em c)(h:Mid w B t C c.cells K)(hl:l.length<=1000)(h0:∀x∈l,0<=x)(hi:Du w Z (.s I l.length J) l)(hx:c.next<=2000):Calls prog 132 #[.q B o,.s I l.length J] w fun e p=>e=.r (.agg #[.i (Cd.orZero (Cd.one l c.next)).place,.i (Cd.orZero (Cd.one l c.next)).op,.i (Cd.orZero (Cd.one l c.next)).n])/\Mid p B t C (⟨c.meth,c.next,(Cd.orZero (Cd.one l c.next)).place.toNat+Cd.wd (Cd.orZero (Cd.one l c.next)).op,c.lo,c.st,c.h⟩:Bh).cells K/\Gr B w p:=by
 have hR:=fun p (hb:Bl w p)=>Bho l I J Z c.next p hl Bd h0 (hi.kp (Kp.of_below (e:=none) hb) Ck)
 generalize f:Cd.one l c.next=r at *
 have a7:∃q:Nat,(Cd.orZero r).place=(q:Int)/\q<=100000:=by
  cases r with
  | none=>exact⟨0,rfl,Bd⟩
  | some x =>
   unfold Cd.one at f
   split at f
   ·simp only[Option.some.injEq]at f;subst f;exact⟨c.next,rfl,Bd⟩
   cases f
 obtain⟨q,hq,a8⟩:=a7;generalize Cd.orZero r=a9 at *;obtain⟨pl,op,n⟩:=a9;simp only at hq hR ⊢;subst hq;rw[Bvn];have hN:=fun w=>W7 q op n w a8;have b4:=h.lt;clear f hi h0;go_in;have s2:=((h.alloc (O15 0 0 0)).sees j m).n;go_wp2_with fail;refine Qm (hR _ (QN _)) ?_;intro v D;have F:=(h.alloc (O15 0 0 0)).below D;have L:=stay D (Bf w (O15 0 0 0));have b5:=Pk L;obtain⟨N,z1,z2,O,Q,V,g⟩:=F.sees j m;have f1:=g (o+1);have f2:=g (o+2);have b6:=F.lt;have a0:Gr B w v:=Gr.of_below ((Gr.refl _ _).alloc _) D;clear N O Q V g s2;go_wp2_with fail;refine Qm (hN _) ?_;intro w2 z;have a1:=F.setP j c.next
 have b0:Em ⟨c.meth,c.next,c.next,c.lo,c.st,c.h⟩:=⟨m.lo,m.st,m.h⟩
 have b1:(v.setCell (.a B (o+1)) (.i (c.next:Int))).heap.size=v.heap.size:=by simp[World.setCell]
 have G:=(a1.alloc (O15 (q:Int) op n)).below z;have O0:=Bf (v.setCell (.a B (o+1)) (.i (c.next:Int))) (O15 (q:Int) op n)
 rw[b1]at O0;have O2:=stay z O0;have a2:(v.setCell (.a B (o+1)) (.i (c.next:Int))).heap[w.heap.size]?=_:=(Bvg _ _ _ _ (by simpa using (show w.heap.size≠B by omega))).trans L
 have A:=stay z (Bk a2 (O15 (q:Int) op n));have b7:=Pk O2;have b8:=Pk A;have u0:=(Bb O2 0).trans (show _=some (.i (q:Int)) from rfl);have u1:=(Bb O2 1).trans (show _=some (.i op) from rfl);have u2:=(Bb O2 2).trans (show _=some (.i n) from rfl);have v0:=(Bb A 0).trans (show _=some (.i 0) from rfl);have v1:=(Bb A 1).trans (show _=some (.i 0) from rfl);have v2:=(Bb A 2).trans (show _=some (.i 0) from rfl);obtain⟨g0,g1,g2⟩:=fr3 A;obtain⟨N,y1,y2,O,Q,V,g⟩:=G.sees j b0;have b9:=g (o+2);have c0:=G.lt;have a3:=G.setN j (q+Cd.wd op);have a4:Gr B w w2:=Gr.of_below ((a0.setB _).alloc _) z;have Y:w.heap.size≠B:=Bd;have a5:∀u0 u1 u2,Mid (((((w2.setCell (.a B (o+2)) (.i ((q+Cd.wd op:Nat):Int))).setCell (.a w.heap.size 0) u0).setCell (.a w.heap.size 1) u1)).setCell (.a w.heap.size 2) u2) B t C (⟨c.meth,c.next,q+Cd.wd op,c.lo,c.st,c.h⟩:Bh).cells K:=fun a b d=>by
  unfold Mid;rw[Bvg _ _ _ _ (by simpa using Bxc Y),Bvg _ _ _ _ (by simpa using Bxc Y),Bvg _ _ _ _ (by simpa using Bxc Y)];exact a3
 have b2:=Bc a5;have b3:=Bc a4;clear a1 F G L a2 O0 D z N z1 z2 O Q V g y1 a0 a3 a5 a4 h;go_wp2;refine tb (.agg #[.i (q:Int),.i op,.i n]) (by simp[results,results132,go_sem,v0,v1,v2]) ?_;have a6:=Ba b2 (.i (q:Int)) (.i op) (.i n);rw[Bzh]at a6;exact⟨rfl,a6,((((Ba b3).setB _).set (.inl (Wf _)) _).set (.inl (Wf _)) _).set (.inl (Wf _)) _⟩
def Bz.other{k:Cv}{S:Bo}{v:Dh}(h:Bz k S v w)(p:k.Ok){cs:TV}(z:w.heap[u]?=some (.cells cs.toArray 219 (0,0)))(G:k.w0.heap.size<=u)(i:Nat)(c:TX):Bz k S v (w.setCell (.a u i) c):=by
 have I:=p.Bs;have J:=p.sz;have m:∀q,q≠u->(w.setCell (.a u i) c).heap[q]?=w.heap[q]?:=fun q j=>Bvg _ _ _ _ (by simpa using j);have l:∀{b e s n:Nat}{x:TX}{t:TV},w.ownsRow b e s x n t->e≠219->(w.setCell (.a u i) c).ownsRow b e s x n t:=fun f A=>Gs f (fun q j=>m q (Gd f z A q j));have f:=h.rows;refine⟨(m k.B Bd).trans h.blk,h.wf,⟨l f.objs Ck,f.ovl,f.obk,fun q j=>l (f.flds q j) Ck,l f.wait Ck,f.wwf,l f.out Ck,f.nd,fun q C D F=>?_,f.low.setCell Fm _,by simp[World.setCell];exact f.szs⟩⟩;rw[m q Bd];exact f.keep q C D F
def Bm8(k:Cv)(S:Bo)(v:Dh)(w:TW)(f:k.Ok)(h:Bz k S v w)(hF:Bc1 S)(c3:S.now.next<=2000)(c6:S.steps<=100000)(F:0<=(Fy k.E S.now).op/\(Fy k.E S.now).op<=25/\0<=(Fy k.E S.now).n/\(Fy k.E S.now).n<=255):Calls prog 86 #[.q k.B 0] w fun e A=>e=.r (.tuple #[])/\∃I,Bz k (Hh k.E S) I A:=by
 have c7:=h.sees.c37;have c8:=h.sees.fr 37;have N:Bz k ⟨S.read,S.objs,S.now,S.wait,S.ended,S.out,S.status,S.value,S.steps+1⟩ v (w.setCell (.a k.B 37) (.i ((S.steps:Int)+1))):=h.setPost f (j:=5) Bd _ rfl rfl (by simp[Hp]) h.rows;have c9:(w.setCell (.a k.B 37) (.i ((S.steps:Int)+1))).C k.B 12 (.i S.now.meth):=N.sees.c12;have hm:=Re k _ v S.now.meth _ f N;obtain⟨b0,b1⟩:=f.cm S.now.meth;have eS:Hh k.E S=Ci k.E (Fy k.E S.now).op (Fy k.E S.now).n (Oc k.E S):=rfl;rw[eS];have eB:Oc k.E S=(⟨S.read,S.objs,S.now,S.wait,S.ended,S.out,S.status,S.value,S.steps+1⟩:Bo).withNow ⟨S.now.meth,S.now.next,(Fy k.E S.now).place.toNat+Cd.wd (Fy k.E S.now).op,S.now.lo,S.now.st,S.now.h⟩:=rfl
 have eO:Fy k.E S.now=Cd.orZero (Cd.one (k.E.meth S.now.meth).code S.now.next):=rfl
 rw[eO]at F eB ⊢;generalize k.E.meth S.now.meth=M at *;have a1:Hid (∀w O Q bb,Bz k ⟨S.read,S.objs,S.now,S.wait,S.ended,S.out,S.status,S.value,S.steps+1⟩ v w->Du w bb (.s O M.code.length Q) M.code->Calls prog 132 #[.q k.B 12,.s O M.code.length Q] w fun e A=>e=.r (.agg #[.i (Cd.orZero (Cd.one M.code S.now.next)).place,.i (Cd.orZero (Cd.one M.code S.now.next)).op,.i (Cd.orZero (Cd.one M.code S.now.next)).n]) /\
   Bz k (Oc k.E S) v A/\Gr k.B w A):=by
  intro w O Q bb h hi;refine(Bkv S.now M.code O Q bb k.B 12 156 _ _ w rfl h.wf h.blk b0 (fun x hx=>(b1 x hx).1) hi c3).mono fun e A ⟨he,J,hg⟩=>⟨he,?_,hg⟩;rw[eB];exact h.now f hg ⟨h.wf.lo,h.wf.st,h.wf.h⟩ J
 have b2:Bc1 (Oc k.E S):=⟨hF.ob,hF.wt,hF.rd,hF.ou⟩;generalize Oc k.E S=S1 at *;generalize Cd.orZero (Cd.one M.code S.now.next)=c4 at *
 obtain⟨t,op,n⟩:=c4;simp only at F a1 ⊢;have b3:=fun w h=>Bsm k S1 v t op n w f h ⟨F.1,F.2.1⟩ F.2.2 b2;have HD:=Bc b3;have HM:=Bc hm;have H1:=Bc N;have d0:=h.blk.lt;clear h N hm b3 eS eB eO hF b2 F b0 b1;go_in;go_wp2_with fail;refine(Ba HM).mono ?_;rintro e z ⟨m,rfl,J,b4⟩;have h2:=(Ba H1).gr f b4;have b5:=J.cn;have a2:=J.code;obtain⟨m1,m2,m3,m4,m5,m6,m7,m8,m9,l,mb,p,md,me,mf,mg,mh,mi⟩:=m;simp only at b5 a2;subst b5;simp only[PM.val];have a3:Bl z (z.alloc (O18 m1 m2 m3 m4 m5 m6 m7 m8 m9 l M.code.length p md me mf mg mh mi)):=QN _;have h3:=h2.gr f a3;have b6:=a2.kp (Kp.of_below (e:=none) a3) Ck;have V:=Bf z (O18 m1 m2 m3 m4 m5 m6 m7 m8 m9 l M.code.length p md me mf mg mh mi);have b7:z.heap.size≠k.B:=by have:=h2.blk.lt;omega
 have q7:=(Bb V 7).trans (show _=some (.s l M.code.length p) from rfl);have lQ:=Pk V;have Y:=Bc h3;have b8:=Bc b6;clear HM J b4 h2 H1 h3 a2 b6 a3;go_wp2;generalize z.alloc (O18 m1 m2 m3 m4 m5 m6 m7 m8 m9 l M.code.length p md me mf mg mh mi)=g at *;refine Bvz (S:=(fun A=>A.C z.heap.size 7 (.s l M.code.length p))) Le q7 (fun b=>?_);refine tq 0 (.q k.B 0) b ?_;refine tq 1 (.q k.B 0) b ?_;refine tq 2 (.q k.B 12) b ?_;refine tq 3 (.q z.heap.size 7) b ?_;refine tq 4 (.s l M.code.length p) b ?_;refine Bw7 (rs:=[5,6]) Le Fr ?_;refine Bv3 (o:=⟨_,_,_,_,_,_⟩) rfl (fun K c=>?_) (Bv3 (o:=⟨_,_,_,_,_,_⟩) rfl (fun K c=>?_) Bw2)
 ·go_simp;refine Qm (Ba a1 _ _ _ _ ((Ba Y).drew f) (show Du g.drew _ _ _ from Ba b8)) ?_;rintro w7 ⟨Z,a0⟩;have G:=a0.own (show g.drew.heap[_]?=_ from V) b7;have p7:=(Bb G 7).trans (show _=some (.s l M.code.length p) from rfl);have c5:=Bk G (O15 0 0 0);have p8:=(Bb c5 7).trans (show _=some (.s l M.code.length p) from rfl);have a4:=Bk G (O15 t op n);have L:=(Bb a4 7).trans (show _=some (.s l M.code.length p) from rfl);have a5:=Z.gr f (QN (O15 t op n))
  try dsimp only
  clear b;refine c.out _ _ p7 (fun b=>?_);clear c K
  try simp only[QX]
  refine tr 6 fun K c=>?_;go_simp;clear b;refine c.out _ _ p8 (fun b=>?_);clear c K
  try simp only[QX]
  refine tr 7 fun K c=>?_;go_simp;clear b;refine c.out _ _ (by first|exact L | simpa using L) (fun b=>?_)
  clear c K
  try simp only[QX]
  refine Bv9 Le ?_ _;clear b;go_wp2_with fail;refine Qm (Ba HD _ a5) ?_;rintro w9 ⟨I,h9⟩;go_wp2;go_end0;exact⟨rfl,I,h9⟩
 go_simp;have a6:Bl g (g.drew.alloc (O15 0 0 0)):=(Vm _ _).drew.alloc (Wf _) _;have b9:=stay a6 V;have p7:=(Bb b9 7).trans (show _=some (.s l M.code.length p) from rfl);have hZ:(g.drew.alloc (O15 0 0 0)).heap[g.heap.size]?=_:=Bf g.drew (O15 0 0 0);clear b;refine c.out _ _ p7 (fun b=>?_);clear c K
 try simp only[QX]
 refine tr 5 fun K c=>?_;go_simp;refine Qm (Ba a1 _ _ _ _ ((Ba Y).gr f a6) ((Ba b8).kp (Kp.of_below (e:=none) a6) Ck)) ?_;rintro w7 ⟨Z,a0⟩;have G:=a0.own b9 b7;have p8:=(Bb G 7).trans (show _=some (.s l M.code.length p) from rfl);have D:=a0.own hZ (by have:=(Ba Y).blk.lt;show g.heap.size≠k.B;omega);have d1:=Pk D;have y0:=(Bb D 0).trans (show _=some (.i 0) from rfl);have y1:=(Bb D 1).trans (show _=some (.i 0) from rfl);have y2:=(Bb D 2).trans (show _=some (.i 0) from rfl);obtain⟨x0,x1,x2⟩:=fr3 D
 try dsimp only
 clear b;refine c.out _ _ p8 (fun b=>?_);clear c K
 try simp only[QX]
 refine tr 7 fun K c=>?_;go_simp;have a7:k.w0.heap.size<=g.heap.size:=(Ba Y).rows.szs;have c0:=Z.other f (cs:=[.i 0,.i 0,.i 0]) D a7 0 (.i t);have a8:=Bq (i:=0) D (.i t);have c1:=c0.other f (cs:=[.i t,.i 0,.i 0]) a8 a7 1 (.i op);have c2:=Bq (i:=1) a8 (.i op);have a5:=c1.other f (cs:=[.i t,.i op,.i 0]) c2 a7 2 (.i n);have a9:z.heap.size≠g.heap.size:=Bd;have a4:=((Bvg _ ⟨g.heap.size,2,none⟩ (.i n) _ a9).trans ((Bvg _ ⟨g.heap.size,1,none⟩ (.i op) _ a9).trans ((Bvg w7 ⟨g.heap.size,0,none⟩ (.i t) _ a9).trans G)));have L:=(Bb a4 7).trans (show _=some (.s l M.code.length p) from rfl);clear c0 c1 a8 c2 Z;clear b;refine c.out _ _ (by first|exact L | simpa using L) (fun b=>?_)
 clear c K
 try simp only[QX]
 refine Bv9 Le ?_ _;clear b;go_wp2_with fail;refine Qm (Ba HD _ a5) ?_;rintro w9 ⟨I,h9⟩;go_wp2;go_end0;exact⟨rfl,I,h9⟩
def Tb:Nat->List (Int × List Int)
 | 0=>[]
 | j+1=>Tb j++[((j:Int)+2,[])]
def Ro:Nat->List Value
 | 0=>[]
 | j+1=>Ro j++[.slice none 0 0]
def Bn4:∀j,(Tb j).length=j
 | 0=>rfl
 | j+1=>by simp[Tb,Bn4 j]
def Bm6:∀j,(Ro j).length=j
 | 0=>rfl
 | j+1=>by simp[Ro,Bm6 j]
def Bia(h:Int)(w:TW):Calls prog 83 #[.i h] w fun e N=>∃f g,e=.r (.agg #[.s f 5 g,.i h])/\N.ownsRow w.heap.size 215 2 (.s f 5 g) 5 (ocells (Tb 5) (Ro 5))/\Bl w N:=by
 obtain⟨i0,hi,a1,a2,a3⟩:=Bv4 Tryz.infoObj;have O:=Bx w (O31 none 0 0 0) (O31 none 0 0 h);have Q:=Cb w (O31 none 0 0 0) (O31 none 0 0 h);have V:=Bv w (O31 none 0 0 0) (O31 none 0 0 h);go_in;go_wp2
 go_loopw [4] (fun c wr=>∃(j:Nat) (f:TA) (g:Nat),j<=5/\c=.i ((j:Int)+2)/\wr.ownsRow (w.heap.size+2) 215 2 (.s f j g) j (ocells (Tb j) (Ro j))/\wr.heap[w.heap.size+1]?=some (O31 f j g h)/\wr.heap[w.heap.size]?=some (O31 none 0 0 0)/\Bl w wr)
  (fun c _=>7-(intOf c).toNat)
 case atStart=>exact⟨0,none,0,Bd,rfl,Bvl _ _ _ _,V,Q,O⟩
 case round=>
  clear O Q V;obtain⟨j,f,g,hj,rfl,m,t,B,l⟩:=hrel;have y0:=(Bb t 0).trans (show _=some (.s f j g) from rfl);have y1:=(Bb t 1).trans (show _=some (.i h) from rfl);have f0:=Bj t 0;have lH:=Pk t;have a9:=l.size;by_cases b0:j<5
  ·go_wp2_with (at_builtin;refine Bxg _ rfl _ _ 146 rfl (w.heap.size+2) 215 i0 _ 2 32 underlying146 hi a1 a2 a3 rfl Ck _ _ _ rfl (m.alloc _) ⟨wr.heap.size,0,none⟩ 1 1 [.i ((j:Int)+2),.s none 0 0] rfl rfl ?c1 ?c2 ?c3 ?c4 ?c5 ?_)
   case c1=>exact Dv _ _ _ _ rfl
   case c2=>intro u Y;simp at Y;rcases Y with rfl|rfl<;>rfl
   case c3=>unfold maxLen;omega
   case c4=>omega
   case c5=>simp;omega
   intro v' D J C _ a4;obtain⟨v,z,rfl⟩:=Bg J;have G:∀q,q<w.heap.size+2->D.heap[q]?=wr.heap[q]?:=fun q A=>(C.block q Fm (fun e=>by have:=(m.lt q e.symm).1;omega)).trans (Bvu _ _ _ Bd);have I:=(G _ Bd).trans t;have Z:=(G _ Bd).trans B;have a0:Bl w D:=⟨C.os.trans l.os,C.tape.trans l.tape,C.output.trans l.output,Bvv l.size (Bvv Fr C.size),fun q A=>(G q Bd).trans (l.block q A)⟩;have x0:=(Bb I 0).trans (show _=some (.s f j g) from rfl);have g0:=Bj I 0;have b1:=Pk I;have K:D.ownsRow (w.heap.size+2) 215 2 (.s v (j+1) z) (j+1) (ocells (Tb (j+1)) (Ro (j+1))):=by
    rw[Tb,Ro,Ys _ _ (by rw[Bn4,Bm6])];exact J
   have a5:=Bq (i:=0) I (.s v (j+1) z);have F:(D.setCell (.a (w.heap.size+1) 0) (.s v (j+1) z)).ownsRow (w.heap.size+2) 215 2 (.s v (j+1) z) (j+1) (ocells (Tb (j+1)) (Ro (j+1))):=Gs K (fun q A=>Bvg _ _ _ _ (by have:=(K.lt q A).1;simp;omega));have a6:(D.setCell (.a (w.heap.size+1) 0) (.s v (j+1) z)).heap[w.heap.size]?=_:=(Bvg _ _ _ _ Fr).trans Z;have a7:=Bc (a0.setCell (p:=.a (w.heap.size+1) 0) Fr (.s v (j+1) z));have L:=Bc F;clear J C a4 G K F m l t B a0 Z;go_wp2;go_roundw
   case rel=>exact⟨j+1,v,z,Bd,Lt,Ba L,a5,a6,Ba a7⟩
   case measure=>simp[intOf];omega
  have a8:j=5:=Bd;subst a8;obtain⟨r0,r1⟩:=cl2 B;obtain⟨q0,q1⟩:=fr2 B;have lR:=Pk B;simp at r0 r1;have F:∀a b,((wr.setCell (.a w.heap.size 0) a).setCell (.a w.heap.size 1) b).ownsRow w.heap.size 215 2 (.s f 5 g) 5 (ocells (Tb 5) (Ro 5)):=fun a b=>D8 (Gs m (fun q A=>(Bvg _ _ _ _ (by have:=(m.lt q A).1;simp;omega)).trans (Bvg _ _ _ _ (by have:=(m.lt q A).1;simp;omega)))) Bd;have L:=Bc F;clear m F t B;go_wp2;refine tb (.agg #[.s f 5 g,.i h]) (by simp[results,results83,go_sem,r0,r1]) ?_;exact⟨f,g,rfl,Ba L _ _,(l.setCell Fr _).setCell Fr _⟩
def Tryz.infoMach:(prog.info? 156).map (·.size)=some 38:=Le
def Bqc(b c e f g h j l m p q t v z A B C D F G I J K L N O Q V Y Z b9:TX)(w:TW):(Instr.build 156 #[(0,.agg #[b,c]),(1,.agg #[e,f]),(2,.agg #[g,h,j,l,m]),(4,.agg #[p,q]),(5,.agg #[t,v,z,A,B,C,D,F,G,I,J,K,L,N,O,Q,V,Y,Z,b9])]).run prog w=.ok (.agg #[b,c,e,f,g,h,j,l,m,.i 0,p,q,t,v,z,A,B,C,D,F,G,I,J,K,L,N,O,Q,V,Y,Z,b9,.s none 0 0,.bool false,.s none 0 0,.i 0,.i 0,.i 0]) w:=Le
def Iw (p0 p1 p2 p3 p4 p5 p6 p7 p8 p9 p10:TX)(c:TV):List Value:=[p0,p1,p2,p3,p4,p5,p6,p7,p8,.int .i64 0,p9,p10]++(c++[.slice none 0 0,.bool false,.slice none 0 0,.int .i64 0,.int .i64 0,.int .i64 0])
def Bug(b e f g i j l m p q s:TX)(c:TV)(h:c.length=20)(w:TW):(Instr.build 156 #[(0,.agg #[b,e]),(1,.agg #[f,g]),(2,.agg #[i,j,l,m,p]),(4,.agg #[q,s]),(5,.agg c.toArray)]).run prog w=.ok (.agg (Iw b e f g i j l m p q s c).toArray) w:=by
 match c,h with
 | [a0,a1,a2,a3,a4,a5,a6,a7,a8,a9,b0,b1,b2,b3,b4,b5,b6,b7,b8,b9],_=>exact Bqc _ _ _ _ _ _ _ _ _ _ _ _ _ _ _ _ _ _ _ _ _ _ _ _ _ _ _ _ _ _ _ w
def Rm{t:Array Oper}{S:TW->Prop}{op:Oper}{a:Act}(D:Region.wanted op (yielded t a.tmps)=true)(v z A B C:Operand)(F:op.op=.build 156 #[(0,v),(1,z),(2,A),(4,B),(5,C)]) (b e f g i j l m p q s:TX)(c:TV)(h:c.length=20)(G:a.eval v=.agg #[b,e])(I:a.eval z=.agg #[f,g])(J:a.eval A=.agg #[i,j,l,m,p])(K:a.eval B=.agg #[q,s])(L:a.eval C=.agg c.toArray):YieldsIf prog t S op (.agg (Iw b e f g i j l m p q s c).toArray) a :=
 .inl ⟨D,fun w _=>by
  unfold execOp;simp only[F,List.map_toArray,Bwm,Byz,G,I,J,K,L,B03,Bug b e f g i j l m p q s c h w,Bzz,B04]⟩
def Pl:Obj:=.cells (Iw (.slice none 0 0) (.slice none 0 0) (.slice none 0 0) (.slice none 0 0) (.int .i64 0) (.slice none 0 0) (.int .i64 0) (.int .i64 0) (.int .i64 0) (.slice none 0 0) (.int .i64 0) (⟨0,0,0,Iz,Iz,0⟩:Bh).cells).toArray 156 (0,0)
def Bfb(w:TW):(Instr.alloc 156 true (.tuple #[])).run prog w=.ok (.q w.heap.size 0) (w.alloc Pl):=Le
def Ps{b:Array Oper}{o:Oper}{a:Act}{K:Act->TW->Prop}{Q:Exit->Act->TW->Prop}{E:Prop}(c:o.guard=none)(e:o.op=.alloc 156) (h:K (a.put o.dst (.q w.heap.size 0)) (w.alloc Pl)):if Region.wanted o (yielded b a.tmps)=true then Oper.wp prog o a w K Q else E:=by
 have f:Region.wanted o (yielded b a.tmps)=true:=by simp[Region.wanted,c]
 rw[Sp f];unfold Oper.wp execOp;simp only[e,B03,Bfb,Bzz,B04];exact h
structure Jt where
 fa:Option Addr
 fn:Nat
 fc:Nat
 ma:Option Addr
 mc:Nat
 entry:Int
 ia:Option Addr
 ic:Nat
 ins:List Int
 room:Int
 depth:Int
 fuel:Int
 lcs:List (Rd.Cls × Value)
 lms:List (Rd.Mth × Eh)
def Jt.cells(p:Jt)(tg tc:Nat)(ya:TA)(yn yc:Nat)(oa:TA)(oc:Nat)(c:TV):List Value :=
 Iw (.slice p.fa p.fn p.fc) (.slice p.ma p.lms.length p.mc) (.slice (some ⟨tg,0,none⟩) (Tr.tree (p.lcs.map Prod.fst)).length tc) (.slice ya yn yc) (.int .i64 p.entry) (.slice p.ia p.ins.length p.ic) (.int .i64 p.room) (.int .i64 p.depth) (.int .i64 p.fuel) (.slice oa 5 oc) (.int .i64 p.room) c
def Bbr (p:Jt)(w wx:TW)(B:Nat):Prop:=∃tg tc ya yc oa oc,
 wx.heap[B]?=some (.cells (p.cells tg tc ya (7+p.lcs.length) yc oa oc (Cn p.entry []).cells).toArray 156 (0,0))/\Dl wx tg (Tr.tree (p.lcs.map Prod.fst))/\tg≠B /\
 wx.ownsRow w.heap.size 105 1 (.slice ya (7+p.lcs.length) yc) (7+p.lcs.length) (Tr.fvals p.lcs)/\wx.ownsRow w.heap.size 215 2 (.slice oa 5 oc) 5 (ocells (Tb 5) (Ro 5)) /\
 wx.heap[w.heap.size+1]?=some (O32 p.entry p.ia p.ins.length p.ic p.room p.depth p.fuel)/\wx.heap[w.heap.size+2]?=some (O33 none 0 0 0 0 0)/\Below w.heap.size w wx/\w.heap.size+2<B
theorem Bjs{w:World}{s:Nat}{i v:Value}(c:w.cell? ⟨u,j,none⟩=some i)(b:w.cell? ⟨s,j,none⟩=some v)(f:i≠v):u≠s:=fun e=>by
 subst e;rw[c]at b;exact f (by simpa using b)
def Y6{p:Jt}{wd b:TW}{c tc yn yc h:Nat}{ya l:TA}(z:wd.heap[w.heap.size+1]?=some (O32 p.entry p.ia p.ins.length p.ic p.room p.depth p.fuel))(A:wd.heap[w.heap.size+2]?=some (O33 none 0 0 0 0 0))(J:Bl w wd)(m:Bl wd b)(D:b.heap[u]?=some Pl)(K:w.heap.size+2<u) (q:Dl b c (Tr.tree (p.lcs.map Prod.fst)))(t:b.ownsRow w.heap.size 105 1 (.s ya yn yc) (7+p.lcs.length) (Tr.fvals p.lcs))(F:b.ownsRow w.heap.size 215 2 (.s l 5 h) 5 (ocells (Tb 5) (Ro 5))):Bbr p w (b.setRow u (p.cells c tc ya yn yc l h (Cn p.entry []).cells).toArray) u:=by
 obtain⟨Q,V,G⟩:=Bg t;simp only[Value.slice.injEq]at G;obtain⟨rfl,rfl,rfl⟩:=G;have g:=QB J m;have f:∀j,j≠u->(b.setRow u (p.cells c tc ya (7+p.lcs.length) yc l h (Cn p.entry []).cells).toArray).heap[j]?=b.heap[j]?:=fun j e=>Ce e;have L:0<(Tr.tree (p.lcs.map Prod.fst)).length:=by rw[Ix];omega
 have N:b.C u 0 (.s none 0 0):=(Bb D 0).trans rfl;have I:c≠u:=Bjs (q.2 0 L) N Fr;have v:b.heap[u]?=some (.cells (Iw (.s none 0 0) (.s none 0 0) (.s none 0 0) (.s none 0 0) (.i 0) (.s none 0 0) (.i 0) (.i 0) (.i 0) (.s none 0 0) (.i 0) (⟨0,0,0,Iz,Iz,0⟩:Bh).cells).toArray 156 (0,0)):=D;refine⟨c,tc,ya,yc,l,h,Li v,⟨by rw[B0l];exact q.1,fun i O=>(Bvj (a:=⟨c,i,none⟩) (f c I)).trans (q.2 i O)⟩,I,Gs t (fun j e=>f j (Gd t v Ck j e)),Gs F (fun j e=>f j (Gd F v Ck j e)),
  (f _ Bd).trans ((m.block _ (Pk z)).trans z),(f _ Bd).trans ((m.block _ (Pk A)).trans A),?_,K⟩
 exact⟨g.os,g.tape,g.output,by rw[B0l];exact g.size,fun j e=>(f j Bd).trans (g.block j e)⟩
def Jt.E (p:Jt):Ds:=⟨Tr.tree (p.lcs.map Prod.fst),(Kg p.lcs).map Prod.snd,p.lms.map Prod.fst,p.ins,p.room,p.depth⟩
structure Jt.Good(p:Jt)(w:World)(bc bm:Nat):Prop where
 cs:Ex w bc (.slice p.fa p.fn p.fc) p.lcs
 c6:p.lcs.length<=6
 ff:∀q∈p.lcs,q.1.fields.length<=10
 ms:Eb w bm (.slice p.ma p.lms.length p.mc) p.lms
 ml:p.lms.length<=1000
 cd:∀q∈p.lms,q.1.code.length<=1000/\∀x∈q.1.code,0<=x/\x<=255
 ps:∀q∈p.lms,q.1.params.length<=10
 hn:∀q∈p.lms,q.1.handlers.length<=1000/\∀h∈q.1.handlers,0<=h.target/\h.target<=1000
 ins:Jk w p.ia p.ins
 il:p.ins.length<=1000
 dep:1<=p.depth/\p.depth<=12
 rm:0<=p.room/\p.room<=30
 fu:0<=p.fuel/\p.fuel<=3000
theorem Bra{p:Jt}{w b:World}{s:Nat}(g:p.Good w s j)(h:Bbr p w b u):∃(k:Cv) (v:Dh),k.Ok/\k.B=u/\k.wE=w/\k.w0=b/\k.E=p.E/\k.fuel=p.fuel/\Bz k (Gv p.entry) v b/\b.heap[w.heap.size+1]?=some (O32 p.entry p.ia p.ins.length p.ic p.room p.depth p.fuel)/\b.heap[w.heap.size+2]?=some (O33 none 0 0 0 0 0)/\k.ob≠w.heap.size+1/\k.ob≠w.heap.size+2/\w.heap.size+2<u:=by
 obtain⟨K,tc,ya,yc,L,N,C,O,a0,a1,D,Q,V,F,a2⟩:=h;obtain⟨m,Y,a3,a4,a5⟩:=Cf D Bd;have z:∃cs:List Value,b.heap[m]?=some (.cells cs.toArray 215 (0,0)):=by
  obtain⟨_,⟨_,hn⟩|⟨g',b0,a6,G,_,a7,_⟩⟩:=D
  ·omega
  rw[Y]at G;simp only[Value.slice.injEq,Option.some.injEq,Addr.mk.injEq,Bwb]at G;obtain⟨rfl,_⟩:=G;exact⟨a6.toList,by simpa using a7⟩
 obtain⟨b1,z⟩:=z;have b2:(Tr.tree (p.lcs.map Prod.fst)).length=7+p.lcs.length:=by rw[Ix,Bvr]
 have b3:=g.c6;have a8:b.cell? ⟨m,0,none⟩=some (.int .i64 2):=by rw[a5 0 Ck];rfl
 have a9:b.cell? ⟨K,0,none⟩=some (.int .i64 (-1)):=by rw[O.2 0 Bd];rfl
 have Z:=Wb p.lcs;have I:∀q∈Kg p.lcs,TyR w q.1 q.2/\q.2.length<=10:=by
  intro q l;unfold Kg at l;rcases List.mem_append.1 l with l|l
  ·obtain⟨_,rfl⟩:=List.mem_replicate.1 l;exact⟨TyR.nil _,Fr⟩
  obtain⟨x,hx,rfl⟩:=List.mem_map.1 l;exact⟨TyR.of_tys (g.cs.2 x hx),g.ff x hx⟩
 have J:b.ownsRow w.heap.size 105 1 (.slice ya (Kg p.lcs).length yc) (Kg p.lcs).length ((Kg p.lcs).map Prod.fst):=by rw[Bhf,Z];exact a1
 refine⟨⟨u,m,b,w,p.fa,p.fn,p.fc,p.ma,p.mc,K,tc,ya,yc,j,w.heap.size,Tr.tree (p.lcs.map Prod.fst),Kg p.lcs,p.lms,p.entry,p.ia,p.ic,p.ins,p.room,p.depth,p.fuel⟩,⟨L,N,none,0,none,0,Ro 5⟩,?_,rfl,rfl,rfl,rfl,rfl,?_,Q,V,?_,?_,a2⟩
 ·exact⟨O,by show (Tr.tree _).length<=1000;omega,⟨J,fun q l=>(I q l).1.below F⟩,by show (Kg p.lcs).length<=14;omega,fun q l=>(I q l).2,g.ms,g.ml,g.cd,g.ps,g.hn,g.ins,g.il,g.dep,g.rm,g.fu,
   ⟨a0,Bjs a9 a8 Fr⟩,fun f t=>⟨Gd J C Ck f t,Gd J z Ck f t⟩,
   fun q l f t=>by have:=(I q l).1.blk_lt t;exact⟨by show f≠u;omega,by show f≠m;omega⟩,F.size,⟨Pk C,a3,by show w.heap.size<=u;omega,a4⟩⟩
 ·refine⟨?_,Sq _ _,⟨?_,rfl,fun f t=>?_,fun i hi=>?_,Bvl _ _ _ _,fun c hc=>by simp[Gv]at hc,Bvl _ _ _ _,(show ([]:List Nat).Nodup from List.nodup_nil),fun _ _ _ _=>rfl,F,Wf _⟩⟩
  ·unfold Mid;rw[C];simp only[Jt.cells,Iw,Jr,Hp,Gv,Z];rfl
  ·exact D
  ·have:some m=some f:=by rw[<- t];show _=(Value.slice L _ N).ownBlock;rw[Y];rfl
   exact .inl (by simpa using this.symm)
  have b4:i<5:=hi;have:i=0\/i=1\/i=2\/i=3\/i=4:=Bd;rcases this with rfl|rfl|rfl|rfl|rfl<;>exact Bvl _ _ _ _
 ·intro e;have A:b.heap[m]?=_:=z;rw[show m=w.heap.size+1 from e,Q]at A;simp at A
 intro e;have A:b.heap[m]?=_:=z;rw[show m=w.heap.size+2 from e,V]at A;simp at A
def Tu (E:Ds)(f:Nat)(S R:Bo):Prop:=(S.ended=true->S=R)/\(S.ended=false->S.steps<=f/\Fl E S/\S.out.length<=S.steps/\Pn (Ji E (f-S.steps) S)=R)
def Bqo{E:Ds}{S R:Bo}(h:Tu E u S R)(c:S.ended=false)(e:u<=S.steps):S.fin 1 0=R:=by
 obtain⟨g,i,j,b⟩:=h.2 c;rw[show u-S.steps=0 by omega]at b;unfold Pn Ji at b;rw[Pf (by rw[c];simp)]at b;exact b
def Bnu{E:Ds}(g:E.Small){S R:Bo}(h:Tu E u S R)(c:S.ended=false)(l:¬u<=S.steps):Tu E u (Hh E S) R:=by
 obtain⟨m,i,p,b⟩:=h.2 c;obtain⟨q,j,s⟩:=Um E S;rw[show u-S.steps=(u-(Hh E S).steps)+1 by omega,Ji,Pf (by rw[c];simp)]at b;refine⟨fun e=>?_,fun e=>⟨Bd,Bi7 g i,?_,b⟩⟩
 ·rw[Ah E _ e]at b;unfold Pn at b;rw[Sp e]at b;exact b
 rcases j with e|⟨x,e⟩
 ·rw[e];omega
 rw[e];simp;omega
def Cv.Ok.hb{k:Cv}(c:k.Ok)(n:Int):∀x∈(k.E.meth n).handlers,0<=x.target/\x.target<=1000:=by
 unfold Ds.meth
 split
 ·simp[Eu]
 split
 ·simp[Eu]
 rename_i f g;have h:k.E.ms.length=k.lms.length:=by simp[Cv.E]
 have b:n.toNat<k.lms.length:=Bd;have e:k.E.ms.getD n.toNat Eu=k.lms[n.toNat].1:=by
  rw[Th];simp[Cv.E,b]
 rw[e];exact(c.hn _ (Bvh b)).2
def Bly (k:Cv)(f:Nat)(w:TW):Nat:=match w.cell? ⟨k.B,33,none⟩ with
 | some (.bool true)=>0
 | _=>match w.cell? ⟨k.B,37,none⟩ with
  | some (.int _ n)=>f-n.toNat+1
  | _=>0
def Bz.mr{k:Cv}{S:Bo}{v:Dh}(h:Bz k S v w)(f:Nat):Bly k f w=if S.ended=true then 0 else f-S.steps+1:=by
 unfold Bly;rw[h.sees.c33,h.sees.c37];cases S.ended<;>simp
def Bp8(p:Jt)(bc bm:Nat)(w:TW)(hg:p.Good w bc bm)(R:Bo)(hR:Rj p.E p.fuel.toNat p.entry=R):Calls prog 55 #[.agg #[.s p.fa p.fn p.fc,.s p.ma p.lms.length p.mc],.agg #[.i p.entry,.s p.ia p.ins.length p.ic,.i p.room,.i p.depth,.i p.fuel]] w fun e w' => ∃xa xc,e=.r (.agg #[.s xa R.out.length xc,.i R.status,.i R.value,.i (R.steps:Int)])/\Du w' w.heap.size (.s xa R.out.length xc) R.out/\Bl w w':=by
 have a5:Bl w (((w.alloc (O1 p.fa p.fn p.fc p.ma p.lms.length p.mc)).alloc (O32 p.entry p.ia p.ins.length p.ic p.room p.depth p.fuel)).alloc (O33 none 0 0 0 0 0)):=(((QN _).alloc Fr _).alloc Fm _);have CF:(((w.alloc (O1 p.fa p.fn p.fc p.ma p.lms.length p.mc)).alloc (O32 p.entry p.ia p.ins.length p.ic p.room p.depth p.fuel)).alloc (O33 none 0 0 0 0 0)).heap[w.heap.size]?=some (O1 p.fa p.fn p.fc p.ma p.lms.length p.mc):=Bk (Cb w _ _) _;have CS:(((w.alloc (O1 p.fa p.fn p.fc p.ma p.lms.length p.mc)).alloc (O32 p.entry p.ia p.ins.length p.ic p.room p.depth p.fuel)).alloc (O33 none 0 0 0 0 0)).heap[w.heap.size+1]?=some (O32 p.entry p.ia p.ins.length p.ic p.room p.depth p.fuel):=Bk (Bv w _ _) _;have CR:(((w.alloc (O1 p.fa p.fn p.fc p.ma p.lms.length p.mc)).alloc (O32 p.entry p.ia p.ins.length p.ic p.room p.depth p.fuel)).alloc (O33 none 0 0 0 0 0)).heap[w.heap.size+2]?=some (O33 none 0 0 0 0 0):=by
  have:=Bf ((w.alloc (O1 p.fa p.fn p.fc p.ma p.lms.length p.mc)).alloc (O32 p.entry p.ia p.ins.length p.ic p.room p.depth p.fuel)) (O33 none 0 0 0 0 0);simpa using this
 have d8:=fun W (hb:Bl w W)=>Sn p.fa p.ma p.fn p.fc p.lms.length p.mc bc p.lcs W hg.c6 (hg.cs.kp (Kp.of_below (e:=none) hb) Ck Ck);have HG:=Bc hg;have d9:=Bc hR;have a4:(Cn p.entry []).cells.length=20:=(Sq p.entry []).len;have f2:=fun W=>Bat p.entry none 0 [] 0 W Fr (Bvl W 0 3 1);have f3:=fun W=>Bia p.room W;have HT:Hid (∀W,Bl w W->Calls prog 69 #[.agg #[.s p.fa p.fn p.fc,.s p.ma p.lms.length p.mc]] W fun e w'=>∃g h8 ya yn yc,e=.r (.agg #[.s (.p g) (Tr.tree (p.lcs.map Prod.fst)).length h8,.s ya yn yc])/\Dl w' g (Tr.tree (p.lcs.map Prod.fst))/\w'.ownsRow W.heap.size 105 1 (.s ya yn yc) (7+p.lcs.length) (Tr.fvals p.lcs)/\W.heap.size<=g/\Bl W w'):=d8;have HH:=Bc f3;have HC:=Bc f2;have c2:∀I tc ya yn yc F G,(prog.info? 156).map (·.size)=some (p.cells I tc ya yn yc F G (Cn p.entry []).cells).toArray.size:=fun I tc ya yn yc F G=>by rw[Tryz.infoMach];simp[Jt.cells,Iw,a4]
 have c3:∀I tc ya yn yc F G,(p.cells I tc ya yn yc F G (Cn p.entry []).cells).toArray.all (·.oneCell')=true:=fun I tc ya yn yc F G=>Bya (fun u hu=>by
  simp only[Jt.cells,Iw,Bwt,Bxy,Bx9,Bz2]at hu;rcases hu with (rfl|rfl|rfl|rfl|rfl|rfl|rfl|rfl|rfl|rfl|rfl|rfl)|hu|rfl|rfl|rfl|rfl|rfl|rfl
  all_goals first|rfl|exact Ph _ _ hu)
 clear hg hR d8 f2 f3;go_in
 go_upto_region 1 with fail
 generalize h9:((w.alloc (O1 p.fa p.fn p.fc p.ma p.lms.length p.mc)).alloc (O32 p.entry p.ia p.ins.length p.ic p.room p.depth p.fuel)).alloc (O33 none 0 0 0 0 0)=wd at *;clear h9
 go_cut [5] from 17 (fun s5 wx=>∃B,s5=.q B 0/\Bbr p w wx B)
 case first=>
  have O:=(Bb CF 0).trans (show _=some (.s p.fa p.fn p.fc) from rfl);have Q:=(Bb CF 1).trans (show _=some (.s p.ma p.lms.length p.mc) from rfl);have V:=(Bb CS 0).trans (show _=some (.i p.entry) from rfl);have Y:=(Bb CS 1).trans (show _=some (.s p.ia p.ins.length p.ic) from rfl);have Z:=(Bb CS 2).trans (show _=some (.i p.room) from rfl);have s3:=(Bb CS 3).trans (show _=some (.i p.depth) from rfl);have L:=(Bb CS 4).trans (show _=some (.i p.fuel) from rfl);have A:=Pk CF;have f:=Pk CS;have lR:=Pk CR;have b1:=a5.size;have c4:Bl wd wd.drew:=(Vm _ _).drew;go_wp2;refine Bvz (S:=(fun w'=>w'.C w.heap.size 0 (.s p.fa p.fn p.fc)/\w'.C w.heap.size 1 (.s p.ma p.lms.length p.mc)/\w'.C (w.heap.size+1) 0 (.i p.entry)/\w'.C (w.heap.size+1) 1 (.s p.ia p.ins.length p.ic)/\w'.C (w.heap.size+1) 2 (.i p.room)/\w'.C (w.heap.size+1) 3 (.i p.depth)/\w'.C (w.heap.size+1) 4 (.i p.fuel))) Le ⟨O,Q,V,Y,Z,s3,L⟩ (fun t=>?_);refine tq 0 (.agg #[.s p.fa p.fn p.fc,.s p.ma p.lms.length p.mc]) t ?_;refine tq 1 (.agg #[.s p.fa p.fn p.fc,.s p.ma p.lms.length p.mc]) t ?_;refine tq 3 (.agg #[.i p.entry,.s p.ia p.ins.length p.ic,.i p.room,.i p.depth,.i p.fuel]) t ?_;refine tq 4 (.q (w.heap.size+1) 2) t ?_;refine tq 5 (.i p.room) t ?_;refine tq 7 (.q (w.heap.size+1) 0) t ?_;refine tq 8 (.i p.entry) t ?_;refine Bw7 (rs:=[2,11]) Le Fr ?_;refine Bv3 (o:=⟨_,_,_,_,_,_⟩) rfl (fun K m=>?_) (Bv3 (o:=⟨_,_,_,_,_,_⟩) rfl (fun K m=>?_) Bw2)
  ·go_simp;refine(Ba HT _ (a5.trans (c4.mono b1))).mono ?_;rintro e u1 ⟨I,tc,ya,yn,yc,rfl,f4,c5,-,i0⟩;have f5:=D8 (base':=w.heap.size) c5 (Bvv b1 c4.size);clear c5
   try dsimp only
   have J:=QB c4 i0;clear t;refine m.out _ _ ⟨QC J A O,QC J A Q,QC J f V,QC J f Y,QC J f Z,QC J f s3,QC J f L⟩ (fun t=>?_);clear m K
   try simp only[QX]
   refine Bw7 (rs:=[6,11]) Le Fr ?_;refine Bv3 (o:=⟨_,_,_,_,_,_⟩) rfl (fun K m=>?_) (Bv3 (o:=⟨_,_,_,_,_,_⟩) rfl (fun K m=>?_) Bw2)
   ·go_simp;refine(Ba HH _).mono ?_;rintro e u2 ⟨F,G,rfl,a6,b9⟩;have f6:=D8 (base':=w.heap.size) a6 (Bvv b1 J.size);clear a6
    try dsimp only
    have D:=QB J b9;have c0:=f4.below b9;have c1:=Cx f5 (Kp.of_below (e:=none) b9) Ck;clear t;refine m.out _ _ ⟨QC D A O,QC D A Q,QC D f V,QC D f Y,QC D f Z,QC D f s3,QC D f L⟩ (fun t=>?_);clear m K
    try simp only[QX]
    refine Bw7 (rs:=[9,11]) Le Fr ?_;refine Bv3 (o:=⟨_,_,_,_,_,_⟩) rfl (fun K m=>?_) (Bv3 (o:=⟨_,_,_,_,_,_⟩) rfl (fun K m=>?_) Bw2)
    ·go_simp;refine Qm (Ba HC _) ?_;intro u3 a2
     try dsimp only
     have z:=QB D a2;have b2:=c0.below a2;have b3:=Cx c1 (Kp.of_below (e:=none) a2) Ck;have b4:=Cx f6 (Kp.of_below (e:=none) a2) Ck;clear t;refine m.out _ _ ⟨QC z A O,QC z A Q,QC z f V,QC z f Y,QC z f Z,QC z f s3,QC z f L⟩ (fun t=>?_);clear m K
     try simp only[QX]
     refine Byf (i:=10) (oi:=⟨_,_,_,_,_,_⟩) (v:=.agg (p.cells I tc ya yn yc F G (Cn p.entry []).cells).toArray) rfl Le Le Le (fun _ _ _ h=>h) (Rm Hd _ _ _ _ _ Hd _ _ _ _ _ _ _ _ _ _ _ (Cn p.entry []).cells a4 Hd Hd Hd Hd Hd) t ?_
     try simp only[QX]
     refine tr 11 fun K m=>?_;refine Ps Hd Hd ?_;have a1:Bl u3 (u3.alloc Pl):=QN _;have l:=QB z a1;have a3:=Bf u3 Pl;have a7:w.heap.size+2<u3.heap.size:=Bvm lR z.size;have b5:=b2.below a1;have b6:=Cx b3 (Kp.of_below (e:=none) a1) Ck;have b7:=Cx b4 (Kp.of_below (e:=none) a1) Ck;clear t;refine m.out _ _ ⟨QC l A O,QC l A Q,QC l f V,QC l f Y,QC l f Z,QC l f s3,QC l f L⟩ (fun t=>?_);clear m K
     try simp only[QX]
     refine tr 12 fun K m=>?_;refine Fv Hd 156 _ _ Hd u3.heap.size (p.cells I tc ya yn yc F G (Cn p.entry []).cells).toArray Hd Hd 156 _ a3 (c2 I tc ya yn yc F G) (by simp[Jt.cells,Iw,a4];rfl) (c3 I tc ya yn yc F G) ?_;have b8:=Y6 (tc:=tc) CS CR a5 l a3 a7 b5 b6 b7;clear t;refine m.out _ _ ⟨(Bvj (a:=⟨w.heap.size,0,none⟩) (Ce (by have:=a7;show w.heap.size≠_;omega))).trans (QC l A O),(Bvj (a:=⟨w.heap.size,1,none⟩) (Ce (by have:=a7;show w.heap.size≠_;omega))).trans (QC l A Q),(Bvj (a:=⟨w.heap.size+1,0,none⟩) (Ce (by have:=a7;show w.heap.size+1≠_;omega))).trans (QC l f V),(Bvj (a:=⟨w.heap.size+1,1,none⟩) (Ce (by have:=a7;show w.heap.size+1≠_;omega))).trans (QC l f Y),(Bvj (a:=⟨w.heap.size+1,2,none⟩) (Ce (by have:=a7;show w.heap.size+1≠_;omega))).trans (QC l f Z),(Bvj (a:=⟨w.heap.size+1,3,none⟩) (Ce (by have:=a7;show w.heap.size+1≠_;omega))).trans (QC l f s3),(Bvj (a:=⟨w.heap.size+1,4,none⟩) (Ce (by have:=a7;show w.heap.size+1≠_;omega))).trans (QC l f L)⟩ (fun t=>?_);clear m K
     try simp only[Act.put]
     refine Bv9 Le ?_ _;go_wp2
     go_meet
     case rel=>exact⟨_,rfl,b8⟩
    refine Ps Hd Hd ?_;have a1:Bl u2 (u2.alloc Pl):=QN _;have z:=QB D a1;have c7:=Bf u2 Pl;have a8:w.heap.size+2<u2.heap.size:=Bvm lR D.size;have b2:=c0.below a1;have b3:=Cx c1 (Kp.of_below (e:=none) a1) Ck;have b4:=Cx f6 (Kp.of_below (e:=none) a1) Ck;clear t;refine m.out _ _ ⟨QC z A O,QC z A Q,QC z f V,QC z f Y,QC z f Z,QC z f s3,QC z f L⟩ (fun t=>?_);clear m K
    try simp only[QX]
    refine tr 9 fun K m=>?_;go_simp;refine Qm (Ba HC _) ?_;intro u4 a0
    try dsimp only
    have l:=QB z a0;have a3:=stay a0 c7;have b5:=b2.below a0;have b6:=Cx b3 (Kp.of_below (e:=none) a0) Ck;have b7:=Cx b4 (Kp.of_below (e:=none) a0) Ck;clear t;refine m.out _ _ ⟨QC l A O,QC l A Q,QC l f V,QC l f Y,QC l f Z,QC l f s3,QC l f L⟩ (fun t=>?_);clear m K
    try simp only[QX]
    refine Byf (i:=10) (oi:=⟨_,_,_,_,_,_⟩) (v:=.agg (p.cells I tc ya yn yc F G (Cn p.entry []).cells).toArray) rfl Le Le Le (fun _ _ _ h=>h) (Rm Hd _ _ _ _ _ Hd _ _ _ _ _ _ _ _ _ _ _ (Cn p.entry []).cells a4 Hd Hd Hd Hd Hd) t ?_
    try simp only[QX]
    refine tr 12 fun K m=>?_;refine Fv Hd 156 _ _ Hd u2.heap.size (p.cells I tc ya yn yc F G (Cn p.entry []).cells).toArray Hd Hd 156 _ a3 (c2 I tc ya yn yc F G) (by simp[Jt.cells,Iw,a4];rfl) (c3 I tc ya yn yc F G) ?_;have b8:=Y6 (tc:=tc) CS CR a5 l a3 a8 b5 b6 b7;clear t;refine m.out _ _ ⟨(Bvj (a:=⟨w.heap.size,0,none⟩) (Ce (by have:=a8;show w.heap.size≠_;omega))).trans (QC l A O),(Bvj (a:=⟨w.heap.size,1,none⟩) (Ce (by have:=a8;show w.heap.size≠_;omega))).trans (QC l A Q),(Bvj (a:=⟨w.heap.size+1,0,none⟩) (Ce (by have:=a8;show w.heap.size+1≠_;omega))).trans (QC l f V),(Bvj (a:=⟨w.heap.size+1,1,none⟩) (Ce (by have:=a8;show w.heap.size+1≠_;omega))).trans (QC l f Y),(Bvj (a:=⟨w.heap.size+1,2,none⟩) (Ce (by have:=a8;show w.heap.size+1≠_;omega))).trans (QC l f Z),(Bvj (a:=⟨w.heap.size+1,3,none⟩) (Ce (by have:=a8;show w.heap.size+1≠_;omega))).trans (QC l f s3),(Bvj (a:=⟨w.heap.size+1,4,none⟩) (Ce (by have:=a8;show w.heap.size+1≠_;omega))).trans (QC l f L)⟩ (fun t=>?_);clear m K
    try simp only[Act.put]
    refine Bv9 Le ?_ _;go_wp2
    go_meet
    case rel=>exact⟨_,rfl,b8⟩
   refine Ps Hd Hd ?_;have a1:Bl u1 (u1.alloc Pl):=QN _;have D:=QB J a1;have d2:=Bf u1 Pl;have a9:w.heap.size+2<u1.heap.size:=Bvm lR J.size;have c0:=f4.below a1;have c1:=Cx f5 (Kp.of_below (e:=none) a1) Ck;clear t;refine m.out _ _ ⟨QC D A O,QC D A Q,QC D f V,QC D f Y,QC D f Z,QC D f s3,QC D f L⟩ (fun t=>?_);clear m K
   try simp only[QX]
   refine tr 6 fun K m=>?_;go_simp;refine(Ba HH _).mono ?_;rintro e u3 ⟨F,G,rfl,a6,a2⟩;have b4:=D8 (base':=w.heap.size) a6 (Bvv b1 D.size);clear a6
   try dsimp only
   have z:=QB D a2;have c7:=stay a2 d2;have b2:=c0.below a2;have b3:=Cx c1 (Kp.of_below (e:=none) a2) Ck;clear t;refine m.out _ _ ⟨QC z A O,QC z A Q,QC z f V,QC z f Y,QC z f Z,QC z f s3,QC z f L⟩ (fun t=>?_);clear m K
   try simp only[QX]
   refine tr 9 fun K m=>?_;go_simp;refine Qm (Ba HC _) ?_;intro u4 a0
   try dsimp only
   have l:=QB z a0;have a3:=stay a0 c7;have b5:=b2.below a0;have b6:=Cx b3 (Kp.of_below (e:=none) a0) Ck;have b7:=Cx b4 (Kp.of_below (e:=none) a0) Ck;clear t;refine m.out _ _ ⟨QC l A O,QC l A Q,QC l f V,QC l f Y,QC l f Z,QC l f s3,QC l f L⟩ (fun t=>?_);clear m K
   try simp only[QX]
   refine Byf (i:=10) (oi:=⟨_,_,_,_,_,_⟩) (v:=.agg (p.cells I tc ya yn yc F G (Cn p.entry []).cells).toArray) rfl Le Le Le (fun _ _ _ h=>h) (Rm Hd _ _ _ _ _ Hd _ _ _ _ _ _ _ _ _ _ _ (Cn p.entry []).cells a4 Hd Hd Hd Hd Hd) t ?_
   try simp only[QX]
   refine tr 12 fun K m=>?_;refine Fv Hd 156 _ _ Hd u1.heap.size (p.cells I tc ya yn yc F G (Cn p.entry []).cells).toArray Hd Hd 156 _ a3 (c2 I tc ya yn yc F G) (by simp[Jt.cells,Iw,a4];rfl) (c3 I tc ya yn yc F G) ?_;have b8:=Y6 (tc:=tc) CS CR a5 l a3 a9 b5 b6 b7;clear t;refine m.out _ _ ⟨(Bvj (a:=⟨w.heap.size,0,none⟩) (Ce (by have:=a9;show w.heap.size≠_;omega))).trans (QC l A O),(Bvj (a:=⟨w.heap.size,1,none⟩) (Ce (by have:=a9;show w.heap.size≠_;omega))).trans (QC l A Q),(Bvj (a:=⟨w.heap.size+1,0,none⟩) (Ce (by have:=a9;show w.heap.size+1≠_;omega))).trans (QC l f V),(Bvj (a:=⟨w.heap.size+1,1,none⟩) (Ce (by have:=a9;show w.heap.size+1≠_;omega))).trans (QC l f Y),(Bvj (a:=⟨w.heap.size+1,2,none⟩) (Ce (by have:=a9;show w.heap.size+1≠_;omega))).trans (QC l f Z),(Bvj (a:=⟨w.heap.size+1,3,none⟩) (Ce (by have:=a9;show w.heap.size+1≠_;omega))).trans (QC l f s3),(Bvj (a:=⟨w.heap.size+1,4,none⟩) (Ce (by have:=a9;show w.heap.size+1≠_;omega))).trans (QC l f L)⟩ (fun t=>?_);clear m K
   try simp only[Act.put]
   refine Bv9 Le ?_ _;go_wp2
   go_meet
   case rel=>exact⟨_,rfl,b8⟩
  refine Ps Hd Hd ?_;have a1:Bl wd.drew (wd.drew.alloc Pl):=QN _;have J:=QB c4 a1;have i1:=Bf wd.drew Pl;have b0:w.heap.size+2<wd.drew.heap.size:=Bvm lR c4.size;clear t;refine m.out _ _ ⟨QC J A O,QC J A Q,QC J f V,QC J f Y,QC J f Z,QC J f s3,QC J f L⟩ (fun t=>?_);clear m K
  try simp only[QX]
  refine tr 2 fun K m=>?_;go_simp;refine(Ba HT _ (a5.trans (J.mono b1))).mono ?_;rintro e u2 ⟨I,tc,ya,yn,yc,rfl,c0,c5,-,b9⟩;have c1:=D8 (base':=w.heap.size) c5 (Bvv b1 J.size);clear c5
  try dsimp only
  have D:=QB J b9;have d2:=stay b9 i1;clear t;refine m.out _ _ ⟨QC D A O,QC D A Q,QC D f V,QC D f Y,QC D f Z,QC D f s3,QC D f L⟩ (fun t=>?_);clear m K
  try simp only[QX]
  refine tr 6 fun K m=>?_;go_simp;refine(Ba HH _).mono ?_;rintro e u3 ⟨F,G,rfl,a6,a2⟩;have b4:=D8 (base':=w.heap.size) a6 (Bvv b1 D.size);clear a6
  try dsimp only
  have z:=QB D a2;have c7:=stay a2 d2;have b2:=c0.below a2;have b3:=Cx c1 (Kp.of_below (e:=none) a2) Ck;clear t;refine m.out _ _ ⟨QC z A O,QC z A Q,QC z f V,QC z f Y,QC z f Z,QC z f s3,QC z f L⟩ (fun t=>?_);clear m K
  try simp only[QX]
  refine tr 9 fun K m=>?_;go_simp;refine Qm (Ba HC _) ?_;intro u4 a0
  try dsimp only
  have l:=QB z a0;have a3:=stay a0 c7;have b5:=b2.below a0;have b6:=Cx b3 (Kp.of_below (e:=none) a0) Ck;have b7:=Cx b4 (Kp.of_below (e:=none) a0) Ck;clear t;refine m.out _ _ ⟨QC l A O,QC l A Q,QC l f V,QC l f Y,QC l f Z,QC l f s3,QC l f L⟩ (fun t=>?_);clear m K
  try simp only[QX]
  refine Byf (i:=10) (oi:=⟨_,_,_,_,_,_⟩) (v:=.agg (p.cells I tc ya yn yc F G (Cn p.entry []).cells).toArray) rfl Le Le Le (fun _ _ _ h=>h) (Rm Hd _ _ _ _ _ Hd _ _ _ _ _ _ _ _ _ _ _ (Cn p.entry []).cells a4 Hd Hd Hd Hd Hd) t ?_
  try simp only[QX]
  refine tr 12 fun K m=>?_;refine Fv Hd 156 _ _ Hd wd.drew.heap.size (p.cells I tc ya yn yc F G (Cn p.entry []).cells).toArray Hd Hd 156 _ a3 (c2 I tc ya yn yc F G) (by simp[Jt.cells,Iw,a4];rfl) (c3 I tc ya yn yc F G) ?_;have b8:=Y6 (tc:=tc) CS CR a5 l a3 b0 b5 b6 b7;clear t;refine m.out _ _ ⟨(Bvj (a:=⟨w.heap.size,0,none⟩) (Ce (by have:=b0;show w.heap.size≠_;omega))).trans (QC l A O),(Bvj (a:=⟨w.heap.size,1,none⟩) (Ce (by have:=b0;show w.heap.size≠_;omega))).trans (QC l A Q),(Bvj (a:=⟨w.heap.size+1,0,none⟩) (Ce (by have:=b0;show w.heap.size+1≠_;omega))).trans (QC l f V),(Bvj (a:=⟨w.heap.size+1,1,none⟩) (Ce (by have:=b0;show w.heap.size+1≠_;omega))).trans (QC l f Y),(Bvj (a:=⟨w.heap.size+1,2,none⟩) (Ce (by have:=b0;show w.heap.size+1≠_;omega))).trans (QC l f Z),(Bvj (a:=⟨w.heap.size+1,3,none⟩) (Ce (by have:=b0;show w.heap.size+1≠_;omega))).trans (QC l f s3),(Bvj (a:=⟨w.heap.size+1,4,none⟩) (Ce (by have:=b0;show w.heap.size+1≠_;omega))).trans (QC l f L)⟩ (fun t=>?_);clear m K
  try simp only[Act.put]
  refine Bv9 Le ?_ _;go_wp2
  go_meet
  case rel=>exact⟨_,rfl,b8⟩
 case rest=>
  obtain⟨B,rfl,f7⟩:=hcut;clear CF CS CR a5 HT HH HC c2 c3;obtain⟨k,v0,ok,rfl,f8,c8,f9,g0,N,hS,d3,g1,g2,g3⟩:=Bra (Ba HG) f7;have hR:=Ba d9;rw[Bmo,<- f9]at hR;have g4:k.E.Small:=⟨fun n=>(ok.cm n).2,fun n=>(ok.cm n).1,fun n=>ok.hb n,by show k.room<=30;exact ok.rm.2,by show k.depth<=12;exact ok.dep.2⟩;have d4:=ok.fu;rw[g0]at d4;obtain⟨fu,g5⟩:=Bvk d4.1;have i6:fu<=3000:=Bd;have eF:p.fuel.toNat=fu:=Bd;rw[eF]at hR;have HR:Hid (Tu k.E fu (Gv p.entry) R):=⟨fun h=>(by cases h),fun _=>⟨by show (0:Nat)<=fu;omega,Bf2 _ _,by show (0:Nat)<=0;omega,hR⟩⟩;have HE:=Bc g4;rw[g5]at hS;have g6:w.heap.size+1<k.w0.heap.size:=by rw[c8];exact Pk hS
  have g7:w.heap.size+2<k.w0.heap.size:=by rw[c8];exact Pk d3
  have HS:Hid (∀S v wr,Bz k S v wr->wr.heap[w.heap.size+1]?=some (O32 p.entry p.ia p.ins.length p.ic p.room p.depth (fu:Int))/\wr.heap[w.heap.size+2]?=some (O33 none 0 0 0 0 0)):=fun S v wr h=>⟨(h.rows.keep _ g6 Bd (Bxc g1)).trans (by rw[c8];exact hS),(h.rows.keep _ g7 Bd (Bxc g2)).trans (by rw[c8];exact d3)⟩;have d1:Hid (w.heap.size<=k.w0.heap.size/\k.wE=w):=⟨Bd,f8⟩;have HA:=Bc N;have i7:w.heap.size+2≠k.B:=Bd;have i8:w.heap.size+2<k.B:=g3;have g8:=fun S v w h=>Bbj k S v 1 0 w ok h;have g9:Hid (∀S v wr,Bz k S v wr->Fl k.E S->S.out.length<=S.steps->S.steps<=3000->Calls prog 86 #[.q k.B 0] wr fun e w'=>e=.r (.tuple #[])/\∃v',Bz k (Hh k.E S) v' w'):=fun S v wr h hb h1 h2=>by
   obtain⟨o1,o2,o3,o4,_,_⟩:=Bgn (Ba HE) S.now;have i9:=hb.ob;have j0:=hb.wt;have j1:=hb.rd;have j2:k.E.ins.length<=1000:=ok.il;exact Bm8 k S v wr ok h ⟨Bd,Bd,Bd,Bd⟩ hb.nx Bd ⟨o1,o2,o3,o4⟩
  have h0:=Bc g8;clear HG d9 f7 hR g4 hS d3 f8 c8 f9 g0 N d4 g5 eF g1 g2 g6 g7 g8 g3 a4;go_wp2
  go_loopw [17] (fun _ wr=>∃(S:Bo) (v:Dh),Hid (Bz k S v wr)/\Hid (Tu k.E fu S R))
   (fun _ wr=>Bly k fu wr)
  case atStart=>exact⟨_,_,HA,HR⟩
  case round=>
   clear HA HR;obtain⟨S,v,HA,HL⟩:=hrel;have N:=Ba HA;have hL:=Ba HL;obtain⟨bS,bR⟩:=Ba HS S v wr N;have h3:=N.sees.c33;have j3:=N.sees.c37;have L:=(Bb bS 4).trans (show _=some (.i (fu:Int)) from rfl);have c9:=N.mr fu;cases he:S.ended with
   | true =>
    have i2:=hL.1 he;subst i2;rw[he]at h3;have j4:=N.sees.c34;have j5:=N.sees.c35;have j6:=N.sees.c36;obtain⟨y0,y1,y2,y3⟩:=cl4 bR;obtain⟨z0,z1,z2,z3⟩:=fr4 bR;have lR:=Pk bR;simp at y0 y1 y2 y3;have h4:=N.rows.low;rw[(Ba d1).2]at h4;have h5:=D8 (base':=w.heap.size) N.rows.out (Ba d1).1;have d0:∀j,(Value.slice v.xa S.out.length v.xc).ownBlock=some j->j≠w.heap.size+2:=fun j hj e=>by
     have:=(N.rows.out.lt j hj).1;have:=(Ba d1).1;rw[e]at hj;exact Gd N.rows.out (cs:=[.s none 0 0,.i 0,.i 0,.i 0]) bR Ck _ hj rfl
    have h6:∀a b c d,((((wr.setCell (.a (w.heap.size+2) 0) a).setCell (.a (w.heap.size+2) 1) b).setCell (.a (w.heap.size+2) 2) c).setCell (.a (w.heap.size+2) 3) d).ownsRow w.heap.size 3 1 (.s v.xa S.out.length v.xc) S.out.length (S.out.map (Value.int .i64)):=fun a b c d=>Gs h5 (fun j hj=>by
     rw[Bvg _ _ _ _ (by simpa using d0 j hj),Bvg _ _ _ _ (by simpa using d0 j hj),Bvg _ _ _ _ (by simpa using d0 j hj),Bvg _ _ _ _ (by simpa using d0 j hj)])
    have i3:=Bc h6;clear hL HL HA c9 h5 d0 h6 N HS g9 h0 HE d1 bR bS;go_wp2;refine tb (.agg #[.s v.xa S.out.length v.xc,.i S.status,.i S.value,.i (S.steps:Int)]) (by simp[results,results55,go_sem,y0,y1,y2,y3]) ?_;exact⟨v.xa,v.xc,rfl,Ba i3 _ _ _ _,(((h4.setCell (by show w.heap.size<=w.heap.size+2;omega) _).setCell (by show w.heap.size<=w.heap.size+2;omega) _).setCell (by show w.heap.size<=w.heap.size+2;omega) _).setCell (by show w.heap.size<=w.heap.size+2;omega) _⟩
   | false =>
    rw[he]at h3 c9;rw[Pf Fr]at c9;obtain⟨l1,l2,l3,l4⟩:=hL.2 he;by_cases hf:fu<=S.steps
    ·have hE:=Bqo hL he hf;have i4:(fu:Int)<=(S.steps:Int):=Bd;have hC:=Ba h0 S v wr N;have d5:Hid (Tu k.E fu (S.fin 1 0) R):=⟨fun _=>hE,fun h=>(by cases h)⟩;clear hL HL HA N l4 hE;go_wp2_with fail;refine Qm hC ?_;intro w2 h2;have d6:=h2.mr fu;have d7:=Bc h2;clear h2;go_wp2;go_roundw
     case rel=>exact⟨_,v,d7,d5⟩
     case measure=>rw[d6,c9];simp[Bo.fin]
    have i4:¬(fu:Int)<=(S.steps:Int):=Bd;have d5:Hid (Tu k.E fu (Hh k.E S) R):=Bnu (Ba HE) hL he hf;have hC:=Ba g9 S v wr N l2 l3 Bd;have h7:=(Um k.E S).1;have i5:=Bc h7;clear hL HL HA N l4 h7;go_wp2_with fail;refine Qm hC ?_;rintro w2 ⟨v2,h2⟩;have d6:=h2.mr fu;have d7:=Bc h2;clear h2;go_wp2;go_roundw
    case rel=>exact⟨_,v2,d7,d5⟩
    case measure=>
     rw[d6,c9,Ba i5]
     split<;>omega
def Mw (m:Rd.Mth):Bool:=decide (m.cl=255)&&decide (m.params.length=0)
def Kh (ms:List Rd.Mth)(n:Int):Bool:=if n<0 then false else if (ms.length:Int)<=n then false else Mw (ms.getD n.toNat Eu)
def I9:TI->Bool
 | []=>true
 | n::l=>if n < -2147483648 then false else if 2147483647<n then false else I9 l
def Js (l:TI):Bool:=if 20<l.length then false else I9 l
def Hi (ms:List Rd.Mth)(e:Int)(l:TI)(h d f:Int):Int :=
 if Kh ms e=false then 12 else if h<0 then 13 else if 30<h then 13 else if d<1 then 13 else if 12<d then 13 else if f<0 then 13 else if 3000<f then 13 else if Js l=false then 13 else 0
def Bfj(G j:TA)(I J l K:Nat)(b:List (Rd.Mth×Eh))(n:Int)(w:TW)(a0:b.length<=1000)(L:∀q∈b,q.1.params.length<=1000)(p:Eb w K (.s j b.length l) b):Calls prog 81 #[.agg #[.s G I J,.s j b.length l],.i n] w fun e N=>e=.r (.bool (Kh (b.map Prod.fst) n))/\Bl w N:=by
 unfold Kh;rw[Bvr];by_cases t:n<0;·rw[Sp t];go_in;go_wp2;go_ret;exact⟨rfl,QN _⟩
 rw[Pf t];by_cases v:(b.length:Int)<=n;·rw[Sp v];go_in;go_wp2;go_ret;exact⟨rfl,QN _⟩
 rw[Pf v];obtain⟨q,rfl⟩:=Bvk (show 0<=n by omega);have c:q<b.length:=Bd;obtain⟨m,g,O,a1,f,Q⟩:=p.mth c;have z:(b.map Prod.fst).getD (Int.toNat (q:Int)) Eu=b[q].1:=by simp[Th,c]
 rw[z];have a2:=L _ (Bvh c);obtain⟨A,V,Y,Z,i5,i6,h,-⟩:=Q;generalize b[q].1=M at *;have y0:=f 0 (.i M.cl) (by rw[<- A];rfl);have y2:=f 2 (.s m.pa M.params.length m.pc) (by first|(rw[<- h];rfl)|(rw[h];rfl)|rfl)
 rw[Bzg]at y0;unfold Mw;generalize M.cl=B at *;generalize M.params.length=C at *;have kb:(q:Int)<(b.length:Int):=Bd;clear f p z A V Y Z i5 i6 h;subst O;by_cases D:B=255
 ·subst D;by_cases F:C=0;·subst F;go_in;go_wp2;go_ret;exact⟨Hd,QN _⟩
  have a3:((C:Int)==0)=false:=by simpa using F
  go_in;go_wp2;go_ret;exact⟨Fr,QN _⟩
 have a4:(B==255)=false:=by simpa using D
 go_in;go_wp2;go_ret;exact⟨Fr,QN _⟩
def Bie(l:TI)(a:TA)(c:Nat)(w:TW)(I:l.length<=maxLen)(m:Jk w a l):Calls prog 82 #[.s a l.length c] w fun e B=>e=.r (.bool (Js l))/\B=w:=by
 unfold Js;by_cases p:20<l.length;·rw[Sp p];have C:(20:Int)<(l.length:Int):=Bd;go_in;go_wp2;go_ret;exact⟨rfl,rfl⟩
 rw[Pf p];have C:¬(20:Int)<(l.length:Int):=Bd;generalize b:I9 l=r;have f:Hid (I9 (l.drop 0)=r):=b;clear b;have q:=Bc m;clear m;go_in;go_wp2
 go_loopw [10] (fun v wr=>∃k:Nat,k<=l.length/\v=.i (k:Int)/\Hid (I9 (l.drop k)=r)/\wr=w)
  (fun v _=>l.length-(intOf v).toNat)
 case atStart=>exact⟨0,Bd,rfl,f,rfl⟩
 case round=>
  clear f;obtain⟨k,J,rfl,f,rfl⟩:=hrel;by_cases j:k<l.length
  ·obtain⟨g,o,D,K,F⟩:=Ba q k j;have b:=Ba f;rw[Wr j,I9]at b;have t:l.getD k 0=l[k]:=by simp[Th,j]
   rw[t]at F;generalize l[k]=x at *;have G:(k:Int)<(l.length:Int):=Bd;clear f q t;subst D;by_cases z:x < -2147483648;·rw[Sp z]at b;have h:=Bc b;clear b;go_wp2;go_ret;exact⟨by rw[<- Ba h];rfl,rfl⟩
   rw[Pf z]at b;by_cases A:2147483647<x;·rw[Sp A]at b;have h:=Bc b;clear b;go_wp2;go_ret;exact⟨by rw[<- Ba h];rfl,rfl⟩
   rw[Pf A]at b;have h:Hid (I9 (l.drop (k+1))=r):=b;clear b;go_wp2;go_roundw
   case rel=>exact⟨k+1,Bd,Lt,h,trivial⟩
   case measure=>simp[intOf];omega
  have b:=Ba f;rw[Bvi Bd,I9]at b;have h:=Bc b;have G:¬(k:Int)<(l.length:Int):=Bd;clear b f;go_wp2;go_ret;exact⟨by rw[<- Ba h];rfl,rfl⟩
def Bfe(D z t:TA)(F G A bm B:Nat)(g:List (Rd.Mth×Eh))(p:Int)(l:TI)(h d f:Int)(w:TW)(a1:g.length<=1000)(hp:∀q∈g,q.1.params.length<=1000)(hm:Eb w bm (.s z g.length A) g)(hl:l.length<=maxLen)(hi:Jk w t l):Calls prog 54 #[.agg #[.s D F G,.s z g.length A],.agg #[.i p,.s t l.length B,.i h,.i d,.i f]] w fun e j=>e=.r (.i (Hi (g.map Prod.fst) p l h d f))/\Bl w j:=by
 have J:=Bx w (O1 D F G z g.length A) (O32 p t l.length B h d f);have C0:=Cb w (O1 D F G z g.length A) (O32 p t l.length B h d f);have D0:=Bv w (O1 D F G z g.length A) (O32 p t l.length B h d f);have Z:Hid (∀j,Bl w j->Calls prog 81 #[.agg #[.s D F G,.s z g.length A],.i p] j fun e a0=>e=.r (.bool (Kh (g.map Prod.fst) p))/\Bl j a0):=fun j hb =>
  Bfj D z F G A bm g p j a1 hp (hm.kp (Kp.of_below (e:=none) hb) Ck Ck Ck Ck Ck)
 have HN:Hid (∀j,Bl w j->Calls prog 82 #[.s t l.length B] j fun e a0=>e=.r (.bool (Js l))/\a0=j):=fun j hb=>Bie l t B j hl (hi.below hb);clear hm hi;unfold Hi;generalize Kh (g.map Prod.fst) p=be at *;generalize Js l=bi at *;by_cases N:be=false;·subst N;rw[Sp rfl];go_in;go_wp2_with fail;refine Qb (Ba Z _ J) J ?_;intro w1 O m;go_wp2;go_ret;exact⟨rfl,m⟩
 have a2:be=true:=by simpa using N
 subst a2;rw[Pf N];clear N;generalize hV:(if h<0 then (13:Int) else _)=V
 have b:=Bc hV;clear hV;go_in;go_wp2_with fail;refine Qb (Ba Z _ J) J ?_;intro w1 O m;have C1:=stay O C0;have K:=stay O D0;have s1:=(Bb K 1).trans (show _=some (.s t l.length B) from rfl);have s2:=(Bb K 2).trans (show _=some (.i h) from rfl);have s3:=(Bb K 3).trans (show _=some (.i d) from rfl);have s4:=(Bb K 4).trans (show _=some (.i f) from rfl);clear C0 D0 C1 K J O Z;by_cases v:h<0
 ·have c:Hid (V=13):=by unfold Hid;rw[<- Ba b,Sp v]
  clear b;go_wp2;go_ret;exact⟨by rw[Ba c];rfl,m⟩
 by_cases C:30<h
 ·have c:Hid (V=13):=by unfold Hid;rw[<- Ba b,Pf v,Sp C]
  clear b;go_wp2;go_ret;exact⟨by rw[Ba c];rfl,m⟩
 by_cases I:d<1
 ·have c:Hid (V=13):=by unfold Hid;rw[<- Ba b,Pf v,Pf C,Sp I]
  clear b;go_wp2;go_ret;exact⟨by rw[Ba c];rfl,m⟩
 by_cases L:12<d
 ·have c:Hid (V=13):=by unfold Hid;rw[<- Ba b,Pf v,Pf C,Pf I,Sp L]
  clear b;go_wp2;go_ret;exact⟨by rw[Ba c];rfl,m⟩
 by_cases Q:f<0
 ·have c:Hid (V=13):=by unfold Hid;rw[<- Ba b,Pf v,Pf C,Pf I,Pf L,Sp Q]
  clear b;go_wp2;go_ret;exact⟨by rw[Ba c];rfl,m⟩
 by_cases c7:3000<f
 ·have c:Hid (V=13):=by unfold Hid;rw[<- Ba b,Pf v,Pf C,Pf I,Pf L,Pf Q,Sp c7]
  clear b;go_wp2;go_ret;exact⟨by rw[Ba c];rfl,m⟩
 by_cases Y:bi=false
 ·subst Y;have c:Hid (V=13):=by unfold Hid;rw[<- Ba b,Pf v,Pf C,Pf I,Pf L,Pf Q,Pf c7,Sp rfl]
  clear b;go_wp2_with fail;refine Qm (Ba HN _ m) ?_;rintro w2 rfl;go_wp2;go_ret;exact⟨by rw[Ba c];rfl,m⟩
 have a3:bi=true:=by simpa using Y
 subst a3;have c:Hid (V=0):=by unfold Hid;rw[<- Ba b,Pf v,Pf C,Pf I,Pf L,Pf Q,Pf c7,Pf Y]
 clear b Y;go_wp2_with fail;refine Qm (Ba HN _ m) ?_;rintro w2 rfl;go_wp2;go_ret;exact⟨by rw[Ba c];rfl,m⟩
structure Rk where
 out:List Int
 status:Int
 value:Int
 steps:Int
 err:Int
def Rk.dec(a b:Rk):Decidable (a=b) :=
 if h:a.out=b.out/\a.status=b.status/\a.value=b.value/\a.steps=b.steps/\a.err=b.err then .isTrue (by obtain⟨_,_,_,_,_⟩:=a;obtain⟨_,_,_,_,_⟩:=b;simp only at h;simp[h]) else .isFalse (fun e=>h (by subst e;simp))
def Yc (cs:List Rd.Cls)(ms:List Rd.Mth)(ins:TI)(h d:Int):Ds:=⟨Tr.tree cs,Oj cs,ms,ins,h,d⟩
def Wp (R:Bo):Rk:=⟨R.out,R.status,R.value,R.steps,0⟩
def Ts (s:TB)(en:Int)(ins:TI)(h d f:Int):Rk :=
 if (Gq s).1≠0 then ⟨[],0,0,0,(Gq s).1⟩
 else if Hi (Rd.read s).1.methods en ins h d f≠0 then ⟨[],0,0,0,Hi (Rd.read s).1.methods en ins h d f⟩
 else Wp (Rj (Yc (Rd.read s).1.classes (Rd.read s).1.methods ins h d) f.toNat en)
def Og{D:TB}(h:(Gq D).1=0):(Rf.formed D).1=0:=by
 unfold Gq Wv at h;by_cases b:(Rf.formed D).1≠0;·rw[Sp b]at h;exact absurd h b
 simpa using b
def Xs{D:TB}(h:(Rf.formed D).1=0):(Rd.read D).2=0:=by
 rw[<- M3]at h;unfold Ft at h;by_cases b:(Rd.read D).2≠0;·rw[Sp b]at h;exact absurd h b
 simpa using b
def Zh{m:List Rd.Mth}{c:Int}{B d f:Int}(b:Hi m c z B d f=0):Kh m c=true/\0<=B/\B<=30/\1<=d/\d<=12/\0<=f/\f<=3000/\Js z=true:=by
 unfold Hi at b;by_cases e:Kh m c=false;·rw[Sp e]at b;omega
 by_cases g:Js z=false
 ·simp only[g]at b;split at b<;>(try omega);split at b<;>(try omega);split at b<;>(try omega);split at b<;>(try omega);split at b<;>(try omega);split at b<;>(try omega);split at b<;>(try omega)
  simp at b
 rw[Pf e]at b;refine⟨by simpa using e,?_,?_,?_,?_,?_,?_,by simpa using g⟩
 all_goals iterate 6 (try (split at b<;>try omega))
def Bp1{s:TB}(e:Brq (Rd.read s).1){l i ia:TA}{m K ic:Nat}{J:List (Rd.Cls×Value)}{L:List (Rd.Mth×Eh)}{en h d f:Int}{ins:TI} (p:J.map Prod.fst=(Rd.read s).1.classes)(v:Ex w K (.s l u m) J)(t:L.map Prod.fst=(Rd.read s).1.methods)(z:Eb w K (.s i L.length j) L)(A:ins.length<=1000)(hi:Jk w ia ins) (B:1<=d/\d<=12)(C:0<=h/\h<=30)(D:0<=f/\f<=3000):(⟨l,u,m,i,j,en,ia,ic,ins,h,d,f,J,L⟩:Jt).Good w K K:=by
 have F:J.length<=6:=by have:=e.c6;rw[<- p]at this;simpa using this
 have I:L.length<=6:=by have:=e.m6;rw[<- t]at this;simpa using this
 have G:∀q∈J,Blz q.1:=fun q b=>e.cb _ (by rw[<- p];exact Bwa b);have c:∀q∈L,Blv q.1:=fun q b=>e.mb _ (by rw[<- t];exact Bwa b);refine⟨v,F,fun q b=>?_,z,?_,fun q b=>⟨?_,fun x g=>?_⟩,fun q b=>?_,fun q b=>⟨?_,fun x g=>?_⟩,hi,A,B,C,D⟩
 ·have:=(G q b).fl;omega
 ·show L.length<=1000;omega
 ·have:=(c q b).c2;omega
 ·have:=(c q b).cb x g;unfold By at this;omega
 ·have:=(c q b).pl;omega
 ·have:=(c q b).h4;omega
 have:=((c q b).hb x g).tg;unfold By at this;omega
def Bju(s:ByteArray)(en:Int)(ins:TI)(h d f:Int)(ia:TA)(ic:Nat)(w:TW)(hs:s.size<=maxLen)(hl:ins.length<=maxLen)(hi:Jk w ia ins)(Q:Rk)(v:Ts s.data.toList en ins h d f=Q):Calls prog 21 #[.string s,.agg #[.i en,.s ia ins.length ic,.i h,.i d,.i f]] w fun e L => ∃Z xc,e=.r (.tuple #[.agg #[.s Z Q.out.length xc,.i Q.status,.i Q.value,.i Q.steps],.i Q.err])/\Du L w.heap.size (.s Z Q.out.length xc) Q.out/\Bl w L:=by
 have hC:∀w,Calls prog 53 #[.string s] w fun e L=>∃g j l m B p,e=.r (.tuple #[.agg #[.s g j l,.s m B p],.agg #[.i (Gq s.data.toList).1,.i (Gq s.data.toList).2.1,.i (Gq s.data.toList).2.2]]) /\
    ((Gq s.data.toList).1=0->∃bm a7 t,a7.map Prod.fst=(Rd.read s.data.toList).1.classes/\Ex L bm (.s g j l) a7/\t.map Prod.fst=(Rd.read s.data.toList).1.methods/\Eb L bm (.s m B p) t)/\Bl w L:=fun w=>by
  have hc:=Bez s (Fs (Ma (Rd.read s.data.toList).1.classes (Rd.read s.data.toList).1.methods) 0 (Rd.read s.data.toList).1.methods) w hs
   (fun h0 g j l m B p bm a7 t L hb a8 hc N hm=>by
    rw[M3]at h0;obtain⟨k,_,_⟩:=Ke _ h0;exact Bb8 k a8 hc N hm)
  rw[Bcp]at hc;exact hc
 have O:(Gq s.data.toList).1=0->Brq (Rd.read s.data.toList).1:=fun z=>Btz _ (Xs (Og z));unfold Ts at v;have J:Hid (∀e,(Gq s.data.toList).1=e->e≠0->Q=⟨[],0,0,0,e⟩):=fun e he h0=>by rw[<- v,Sp (by rw[he];exact h0),he]
 have b0:Hid ((Gq s.data.toList).1=0->(if Hi (Rd.read s.data.toList).1.methods en ins h d f≠0 then ⟨[],0,0,0,Hi (Rd.read s.data.toList).1.methods en ins h d f⟩
 else Wp (Rj (Yc (Rd.read s.data.toList).1.classes (Rd.read s.data.toList).1.methods ins h d) f.toNat en))=Q):=fun z=>by
  have h1:=v;rw[Pf (show ¬(Gq s.data.toList).1≠0 by rw[z];simp)]at h1;exact h1
 clear v;generalize hA:Gq s.data.toList=A at *;generalize b1:Rd.read s.data.toList=rd at *;clear hA;obtain⟨F,C,D⟩:=A;simp only at hC O J b0;have HC:=Bc hC;have b8:=Bc O;have HI:=Bc hi;clear hC O hi;have b9:=Bx w (O32 en ia ins.length ic h d f) (O33 none 0 0 0 0 0);have C0:=Cb w (O32 en ia ins.length ic h d f) (O33 none 0 0 0 0 0);have D0:=Bv w (O32 en ia ins.length ic h d f) (O33 none 0 0 0 0 0);by_cases hz:F=0
 ·subst hz;go_in;go_wp2_with fail;refine(Ba HC _).mono ?_;rintro e K ⟨g,j,l,m,B,p,rfl,c0,a0⟩;obtain⟨bm,a7,t,a8,c3,N,b2⟩:=c0 trivial;have O:=Ba b8 trivial;have v:=Ba b0 trivial;clear J b0 b8 c0;have d1:B=t.length:=by obtain⟨_,_,c4⟩:=Bg b2.1;simp only[Value.slice.injEq]at c4;exact c4.2.1
  subst d1;have a9:=QB b9 a0;have C1:=stay a0 C0;have D1:=stay a0 D0;have l1:=Pk C1;have l2:=Pk D1;have V:=Bk (Bk C1 (O1 g j l m t.length p)) (O8 0 C D);have G:=Bk (Bk D1 (O1 g j l m t.length p)) (O8 0 C D);have F2:=Cb K (O1 g j l m t.length p) (O8 0 C D);have E2:=Bv K (O1 g j l m t.length p) (O8 0 C D);have b3:=Bx K (O1 g j l m t.length p) (O8 0 C D);have a4:=QB a9 b3;have b4:=b2.kp (Kp.of_below (e:=none) (b3.mono (Wf _))) Ck Ck Ck Ck Ck;have c5:=c3.kp (Kp.of_below (e:=none) (b3.mono (Wf _))) Ck Ck;have hp:∀q∈t,q.1.params.length<=1000:=fun q hq=>by
   have:=(O.mb q.1 (by rw[<- N];exact Bwa hq)).pl;omega
  have d2:t.length<=1000:=by have:=O.m6;rw[<- N,Bvr]at this;omega
  have b5:=Bfe g m ia j l p bm ic t en ins h d f _ d2 hp b4 hl ((Ba HI).below a4);rw[N]at b5;have c6:=fun W (hb:Below _ _ W)=>Bp1 (s:=s.data.toList) (ia:=ia) (ic:=ic) (en:=en) (h:=h) (d:=d) (f:=f) (ins:=ins) (w:=W) (by rw[b1];exact O) (by rw[b1];exact a8) (c5.kp (Kp.of_below (e:=none) hb) Ck Ck) (by rw[b1];exact N) (b4.kp (Kp.of_below (e:=none) hb) Ck Ck Ck Ck Ck) (hi:=((Ba HI).below a4).below hb);have HG:=Bc c6;have c7:=Bc b5;have J:=Bc v;clear b5 c6 v b2 b4 c3 c5 hp;generalize a3:Hi rd.1.methods en ins h d f=se at *;have HZ:=Bc a3;clear a3
  go_upto_region 2 with fail
  generalize (K.alloc (O1 g j l m t.length p)).alloc (O8 0 C D)=w2 at *;have s0:=(Bb V 0).trans (show _=some (.i en) from rfl);have s1:=(Bb V 1).trans (show _=some (.s ia ins.length ic) from rfl);have s2:=(Bb V 2).trans (show _=some (.i h) from rfl);have s3:=(Bb V 3).trans (show _=some (.i d) from rfl);have s4:=(Bb V 4).trans (show _=some (.i f) from rfl);have f0:=(Bb F2 0).trans (show _=some (.s g j l) from rfl);have f1:=(Bb F2 1).trans (show _=some (.s m t.length p) from rfl);have k0:=(Bb E2 0).trans (show _=some (.i 0) from rfl);go_wp2_with fail;refine Qb (Ba c7) a4 ?_;intro w3 a5 b6;have d5:=b6.size;have C3:=stay a5 V;have I:=stay a5 G;have F3:=stay a5 F2;clear s0 s1 s2 s3 s4 f0 f1 k0 c7 C0 D0 C1 D1 V G E2;by_cases a3:se=0
  ·subst a3;have d3:=Zh (Ba HZ);obtain⟨-,g1,g2,g3,g4,g5,g6,g7⟩:=d3;have hg:=Ba HG w3 a5 (by unfold Js at g7;split at g7<;>first|simp at g7 | omega) ⟨g3,g4⟩ ⟨g1,g2⟩ ⟨g5,g6⟩
   have v:=Ba J;rw[Pf Fr]at v;generalize hR:Rj (Yc rd.1.classes rd.1.methods ins h d) f.toNat en=R at v;subst v;have c8:=Bp8 _ _ _ w3 hg R (by rw[<- hR];simp only[Jt.E,Yc,Boe,a8,N]);have c9:=Bc c8;have s0:=(Bb C3 0).trans (show _=some (.i en) from rfl);have s1:=(Bb C3 1).trans (show _=some (.s ia ins.length ic) from rfl);have s2:=(Bb C3 2).trans (show _=some (.i h) from rfl);have s3:=(Bb C3 3).trans (show _=some (.i d) from rfl);have s4:=(Bb C3 4).trans (show _=some (.i f) from rfl);have f0:=(Bb F3 0).trans (show _=some (.s g j l) from rfl);have f1:=(Bb F3 1).trans (show _=some (.s m t.length p) from rfl);have l4:=Pk I;clear c8 hg HG J HZ hR;go_wp2_with fail;refine(Ba c9).mono ?_;rintro e w4 ⟨Z,xc,rfl,d0,b7⟩;have a6:=QB b6 b7;have Y:=stay b7 I;have r0:=(Bb Y 0).trans (show _=some (.s none 0 0) from rfl);have r1:=(Bb Y 1).trans (show _=some (.i 0) from rfl);have r2:=(Bb Y 2).trans (show _=some (.i 0) from rfl);have r3:=(Bb Y 3).trans (show _=some (.i 0) from rfl);obtain⟨z0,z1,z2,z3⟩:=fr4 Y;have l5:=Pk Y;have HO:Hid (∀a b c d,Du ((((w4.setCell (.a (w.heap.size+1) 0) a).setCell (.a (w.heap.size+1) 1) b).setCell (.a (w.heap.size+1) 2) c).setCell (.a (w.heap.size+1) 3) d) w.heap.size (.s Z R.out.length xc) R.out):=fun a b c d =>
    D8 (Cx d0 (e:=none) ((((Kp.set_lo Bd a).trans (Kp.set_lo Bd b)).trans (Kp.set_lo Bd c)).trans (Kp.set_lo Bd d)) Ck) Bd
   clear d0 I Y C3 F3 a5 b7 c9 s0 s1 s2 s3 s4 f0 f1;go_wp2_with fail;refine tb (.tuple #[.agg #[.s Z R.out.length xc,.i R.status,.i R.value,.i (R.steps:Int)],.i 0]) (by simp[results,B0t,go_sem,r0,r1,r2,r3]) ?_;exact⟨Z,xc,rfl,Ba HO _ _ _ _,by repeat (first|(with_reducible exact a6)|(with_reducible refine By2 ?_)|(with_reducible refine Bvq ?_ Fm _)|(with_reducible refine Bvq ?_ Fr _))⟩
  have v:=Ba J;rw[Sp a3]at v;subst v;have d6:(se != 0)=true:=by simpa using a3
  have a6:=b6;have r0:=(Bb I 0).trans (show _=some (.s none 0 0) from rfl);have r1:=(Bb I 1).trans (show _=some (.i 0) from rfl);have r2:=(Bb I 2).trans (show _=some (.i 0) from rfl);have r3:=(Bb I 3).trans (show _=some (.i 0) from rfl);obtain⟨z0,z1,z2,z3⟩:=fr4 I;have l5:=Pk I;clear HG J HZ;go_wp2_with fail;refine tb (.tuple #[.agg #[.s none 0 0,.i 0,.i 0,.i 0],.i se]) (by simp[results,B0t,go_sem,r0,r1,r2,r3]) ?_;exact⟨none,0,rfl,Bvl _ _ _ _,by repeat (first|(with_reducible exact a6)|(with_reducible refine By2 ?_)|(with_reducible refine Bvq ?_ Fm _)|(with_reducible refine Bvq ?_ Fr _))⟩
 go_in;go_wp2_with fail;refine(Ba HC _).mono ?_;rintro e K ⟨g,j,l,m,B,p,rfl,-,a0⟩;have a9:=QB b9 a0;have D1:=stay a0 D0;have l1:=Pk D1;have G:=Bk (Bk D1 (O1 g j l m B p)) (O8 F C D);have E2:=Bv K (O1 g j l m B p) (O8 F C D);have a4:=a9.trans ((Bx K (O1 g j l m B p) (O8 F C D)).mono a9.size);have d4:=Ba J F rfl hz;subst d4;have a6:=a4;have d7:(F != 0)=true:=by simpa using hz
 have r0:=(Bb G 0).trans (show _=some (.s none 0 0) from rfl);have r1:=(Bb G 1).trans (show _=some (.i 0) from rfl);have r2:=(Bb G 2).trans (show _=some (.i 0) from rfl);have r3:=(Bb G 3).trans (show _=some (.i 0) from rfl);obtain⟨z0,z1,z2,z3⟩:=fr4 G;have k0:=(Bb E2 0).trans (show _=some (.i F) from rfl);have l2:=Pk G;have l3:=Pk E2;go_wp2_with fail;generalize (K.alloc (O1 g j l m B p)).alloc (O8 F C D)=w2 at *
 go_region
 all_goals
  go_wp2_with fail;refine tb (.tuple #[.agg #[.s none 0 0,.i 0,.i 0,.i 0],.i F]) (by simp[results,B0t,go_sem,r0,r1,r2,r3]) ?_;exact⟨none,0,rfl,Bvl _ _ _ _,by repeat (first|(with_reducible exact a6)|(with_reducible refine By2 ?_)|(with_reducible refine Bvq ?_ Fm _)|(with_reducible refine Bvq ?_ Fr _))⟩
def Jk.of_ints{a:TA}{n:Nat}(h:Du w u (.s a n j) z):Jk w a z:=fun i e=>by
 obtain⟨t,v,f⟩:=Bg h;simp only[Value.slice.injEq]at f;obtain⟨rfl,rfl,rfl⟩:=f;obtain⟨g,m,p,_,q⟩:=Cf h Bd;refine⟨g,0,m,p,?_⟩;rw[Bvp,q i (by simpa using e)];simp[Th,e]
def Jk.nil(w:TW)(a:TA):Jk w a []:=fun i b=>absurd b Fr
open Go.ChangeShapes Go.WideShapes Go.ChangeAt Go.RowKit Go.Deep Go.Joins
def Tryz.cellsKS:prog.cellsOf 37=5:=Le
def Tryz.cellsKI:prog.cellsOf 3=1:=Le
def Tryz.cellsKL:prog.cellsOf 26=1:=Le
section
variable {H:Type}{enc:TypeId × Value→H}
theorem Bkq{v:World}{n:Nat}{i:Value}{x:DataW H×List MemPlace}(h:DataW.trod enc prog v 0 (fun _=>true) true n 26 [i]=some x):∃(a:Option Addr) (A:Nat) (g:List Int),i=.slice a g.length A/\g.length<=maxLen/\Jk v a g/\∀n∈g,-9223372036854775808<=n/\n<=9223372036854775807:=by
 rcases open_ints Bxs Bym Tryz.cellsKI h with ⟨f,_⟩|⟨a,m,q,j,f,_,K,L,B,_,s,C⟩
 ·simp only[List.cons.injEq,Bwb]at f;exact⟨none,0,[],f,Fr,Jk.nil _ _,Fr⟩
 simp only[List.cons.injEq,Bwb]at f;subst f;have N:j.length=q:=by simpa using B
 have p:(j.take m).length=m:=by rw[Bxf];omega
 refine⟨some a,q,j.take m,by rw[p],by rw[p];omega,fun e t=>?_,fun n D=>bounds_i64 (C n (B0w D))⟩;rw[p]at t;obtain⟨b,l,F⟩:=a;have G:=s 0 Bd;have I:F=none:=by simpa[Addr.add] using World.cell?_spot G
 subst I;have J:(⟨b,l,none⟩:Addr).add e=⟨b,l+e,none⟩:=by unfold Addr.add;split<;>simp_all
 have z:v.cell? ⟨b,l+e,none⟩=some (.int .i64 (j.getD e 0)):=by rw[<- J];exact s e Bd
 refine⟨b,l,rfl,World.block_lt_of_cell? v _ z,?_⟩;rw[z];simp[Th,t]
def Bkp{v:TW}{b:TX}{d:DataW H}{p:List MemPlace}(F:Value.okWide prog v .any u 37 b)(h:DataW.Trod enc prog v 0 (fun _=>true) true 37 b d p):∃(j:Int) (g:TA) (q:Nat) (c:TI) (h d f:Int),b=.agg #[.i j,.s g c.length q,.i h,.i d,.i f]/\c.length<=maxLen/\Jk v g c:=by
 obtain⟨t,rfl,z⟩:=okWide_struct underlying37 F;obtain⟨a0,G⟩:=h;obtain⟨I,m,_,_,hl,J,e⟩:=DataW.trod_struct underlying37 G;rw[Tryz.cellsKS]at z;obtain⟨l,rfl⟩:∃l:TV,t=l.toArray:=⟨t.toList,Fr⟩
 match l,(show l.length=5 by simpa using z) with
 | [c0,c1,c2,c3,c4],_ =>
  match I,J with
  | [y0,y1,y2,y3,y4],_ =>
   have K:DataW.trod enc prog v 0 (fun _=>true) true m 3 [c0]=some y0:=by simpa[Tryz.cellsKI,Value.cells] using e 0 _ rfl
   have L:DataW.trod enc prog v 0 (fun _=>true) true m 26 [c1]=some y1:=by simpa[Tryz.cellsKL,Value.cells] using e 1 _ rfl
   have g2:DataW.trod enc prog v 0 (fun _=>true) true m 3 [c2]=some y2:=by simpa[Tryz.cellsKI,Value.cells] using e 2 _ rfl
   have g3:DataW.trod enc prog v 0 (fun _=>true) true m 3 [c3]=some y3:=by simpa[Tryz.cellsKI,Value.cells] using e 3 _ rfl
   have g4:DataW.trod enc prog v 0 (fun _=>true) true m 3 [c4]=some y4:=by simpa[Tryz.cellsKI,Value.cells] using e 4 _ rfl
   obtain⟨j,A,_,_⟩:=Bzn Bym K;obtain⟨g,q,c,N,O,Q,_⟩:=Bkq L;obtain⟨V,B,_,_⟩:=Bzn Bym g2;obtain⟨Y,C,_,_⟩:=Bzn Bym g3;obtain⟨Z,D,_,_⟩:=Bzn Bym g4;simp only[List.cons.injEq,Bwb]at A B C D;subst A N B C D;exact⟨j,g,q,c,V,Y,Z,rfl,O,Q⟩
end
def Bno(b c:TI)(C D:TA)(J K:Nat)(w:TW)(F:Jk w C b)(G:Jk w D c)(hl:b.length<=9223372036854775807)(a4:c.length<=9223372036854775807):Calls prog 63 #[.s C b.length J,.s D c.length K] w fun e L=>e=.r (.bool (decide (b=c)))/\Bl w L:=by
 have N:=Bc F;have O:=Bc G;clear F G;by_cases t:b.length=c.length
 ·generalize j:decide (b=c)=r;have f:Hid (decide (b.drop 0=c.drop 0)=r):=j;clear j;have Q:((b.length:Int) != (c.length:Int))=false:=Fm;have I:=Bc t;clear t;go_in;go_wp2
  go_loopw [5] (fun v wr=>∃k:Nat,k<=b.length/\v=.i (k:Int)/\Hid (decide (b.drop k=c.drop k)=r)/\Bl w wr)
   (fun v _=>b.length-(intOf v).toNat)
  case atStart=>exact⟨0,Bd,rfl,f,Vm _ _⟩
  case round=>
   clear f;obtain⟨k,hk,rfl,f,l⟩:=hrel;by_cases z:k<b.length
   ·have A:k<c.length:=by have:=Ba I;omega
    obtain⟨g,o,V,a5,u0⟩:=(Ba N).below l k z;obtain⟨g2,o2,Y,a6,Z⟩:=(Ba O).below l k A;have j:=Ba f;rw[We z A]at j;rw[show b.getD k 0=b[k] by simp[Th,z]]at u0;rw[show c.getD k 0=c[k] by simp[Th,A]]at Z;generalize b[k]=x at *;generalize c[k]=y at *;have a0:(k:Int)<(b.length:Int):=Bd;have a7:(k:Int)<(c.length:Int):=Bd;have q:=Bc j;clear j f;subst V Y;by_cases B:x=y
    ·subst B;have m:Hid (decide (b.drop (k+1)=c.drop (k+1))=r):=by unfold Hid;rw[<- Ba q];simp
     clear q;go_wp2;go_quiet (fail);go_wp2;go_roundw
     case rel=>exact⟨k+1,Bd,Lt,m,Cy l⟩
     case measure=>simp[intOf];omega
    have p:r=false:=by rw[<- Ba q];simp[B]
    have m:=Bc p;have a8:(x != y)=true:=by simpa using B
    clear q p;go_wp2;go_quiet (fail);go_wp2;go_ret;exact⟨by rw[Ba m];rfl,Cy l⟩
   have p:r=true:=by
    rw[<- Ba f,Bvi Bd,Bvi (by have:=Ba I;omega)];rfl
   have m:=Bc p;have a0:¬(k:Int)<(b.length:Int):=Bd;clear p f;go_wp2;go_ret;exact⟨by rw[Ba m];rfl,l⟩
 have Q:((b.length:Int) != (c.length:Int))=true:=Fm;have a3:decide (b=c)=false:=by
  simp only[Bxb];intro h;exact t (by rw[h])
 rw[a3];go_in;go_wp2;go_ret;exact⟨rfl,Vm _ _⟩
def Af(b:TI)(c f g:Int)(h ya:TA)(j yc:Nat)(w:TW)(t:Jk w h b)(v:Jk w ya b)(z:b.length<=9223372036854775807):Calls prog 25 #[.agg #[.s h b.length j,.i c,.i f,.i g],.agg #[.s ya b.length yc,.i c,.i f,.i g]] w fun e F=>e=.r (.bool true)/\Bl w F:=by
 have p:=Bx w (O33 h b.length j c f g) (O33 ya b.length yc c f g);have A:=Cb w (O33 h b.length j c f g) (O33 ya b.length yc c f g);have B:=Bv w (O33 h b.length j c f g) (O33 ya b.length yc c f g);have q:=Bno b b h ya j yc _ (t.below p) (v.below p) z z;rw[Bxp (rfl:b=b)]at q;have C:=Bc q;clear q t v;go_in;go_wp2_with fail;refine Qb (Ba C) p ?_;intro I D G;have l:=stay D A;have m:=stay D B;have J:=(Bb l 1).trans (show _=some (.i c) from rfl);have K:=(Bb l 2).trans (show _=some (.i f) from rfl);have L:=(Bb l 3).trans (show _=some (.i g) from rfl);have N:=(Bb m 1).trans (show _=some (.i c) from rfl);have O:=(Bb m 2).trans (show _=some (.i f) from rfl);have Q:=(Bb m 3).trans (show _=some (.i g) from rfl);clear C A l B m;go_wp2;go_ret;exact⟨rfl,G⟩
def Bb3(f:RFl)(b h d g:Int)(j:TI)(m:TA)(p:Nat)(w:TW)(c:b<0\/(f.ms.length:Int)<=b):Calls prog 23 #[f.val,.agg #[.i b,.s m j.length p,.i h,.i d,.i g]] w fun e q=>e=.r (.i 12)/\Bl w q:=by
 obtain⟨v,z,A,B,C,l,t⟩:=f;simp only[RFl.val]at c ⊢;by_cases D:b<0;·go_in;go_wp2;go_ret;exact⟨rfl,Bx w _ _⟩
 have F:(t.length:Int)<=b:=Bd;clear c;go_in;go_wp2;go_ret;exact⟨rfl,Bx w _ _⟩
def Bh2(f:RFl)(q:Nat)(h d I:Int)(J:TI)(K:TA)(L:Nat)(w:TW)(v:f.ok w)(z:q<f.ms.length)(N:f.ms[q].1.m.params.length<=1000)(j:Mw f.ms[q].1.m=false):Calls prog 23 #[f.val,.agg #[.i (q:Int),.s K J.length L,.i h,.i d,.i I]] w fun e O=>e=.r (.i 12)/\Bl w O:=by
 obtain⟨m,g,A,a0,b,B⟩:=RFl.mth v z;obtain⟨a1,c1,a2,c2,bb,l,C⟩:=f;simp only[RFl.val]at A z N j B b ⊢;obtain⟨D,Q,V,Y,Z,i6,i7,i8,F,-⟩:=B;generalize C[q].1=M at *;obtain⟨cl,nm,pa,c,pc,r1,r2,lo,st,a3,ha,hl,p,ma,ml,mc,a4,a5⟩:=m;simp only[RMV.list]at D F b;subst D F;have y0:=b 0 _ rfl;have y1:=b 1 _ rfl;have y2:=b 2 _ rfl;have y3:=b 3 _ rfl;have y4:=b 4 _ rfl;have y5:=b 5 _ rfl;have y6:=b 6 _ rfl;have y7:=b 7 _ rfl;have y8:=b 8 _ rfl;have y9:=b 9 _ rfl;have ya:=b 10 _ rfl;have yb:=b 11 _ rfl;rw[Bzg]at y0;unfold Mw at j;generalize M.m.cl=G at *;generalize M.m.params.length=c at *;have kb:(q:Int)<(C.length:Int):=Bd;clear b Q V Y Z i6 i7 i8 v;subst A;by_cases p:G=255
 ·subst p;have a6:0<c:=by
   rcases Nat.eq_zero_or_pos c with t|t
   ·subst t;exact absurd j Ck
   exact t
  have a7:(0:Int)<(c:Int):=Bd;go_in;go_wp2;go_ret;exact⟨rfl,(Bx w _ _).alloc (by simp only[World.alloc,Bw3];omega) _⟩
 have a8:(G==255)=false:=by simpa using p
 go_in;go_wp2;go_ret;exact⟨rfl,(Bx w _ _).alloc (by simp only[World.alloc,Bw3];omega) _⟩
def Bh1(f:RFl)(q:Nat)(h d F:Int)(b:TI)(N:TA)(ic:Nat)(w:TW)(hf:f.ok w)(hq:q<f.ms.length)(a5:f.ms[q].1.m.params.length<=1000)(O:Mw f.ms[q].1.m=true)(a9:b.length<=maxLen)(z:Jk w N b):Calls prog 23 #[f.val,.agg #[.i (q:Int),.s N b.length ic,.i h,.i d,.i F]] w fun e w'=>e=.r (.i (if h<0 then 13 else if 30<h then 13 else if d<1 then 13 else if 12<d then 13 else if F<0 then 13 else if 3000<F then 13 else if Js b=false then 13 else 0))/\Bl w w':=by
 obtain⟨m,g,hg,b0,c,a3⟩:=RFl.mth hf hq;obtain⟨a1,c1,a2,A,bb,l,ms⟩:=f;simp only[RFl.val]at hg hq a5 O a3 c ⊢;obtain⟨i1,i2,i3,i4,i5,i6,i7,i8,i9,-⟩:=a3;generalize ms[q].1=M at *;obtain⟨cl,nm,pa,pl,pc,r1,r2,lo,st,b1,ha,hl,hc,ma,ml,mc,b2,b3⟩:=m;simp only[RMV.list]at i1 i9 c;subst i1 i9;have y0:=c 0 _ rfl;have y1:=c 1 _ rfl;have y2:=c 2 _ rfl;have y3:=c 3 _ rfl;have y4:=c 4 _ rfl;have y5:=c 5 _ rfl;have y6:=c 6 _ rfl;have y7:=c 7 _ rfl;have y8:=c 8 _ rfl;have y9:=c 9 _ rfl;have ya:=c 10 _ rfl;have yb:=c 11 _ rfl;rw[Bzg]at y0;unfold Mw at O;generalize M.m.cl=oc at *;generalize M.m.params.length=pl at *;have kb:(q:Int)<(ms.length:Int):=Bd;clear c i2 i3 i4 i5 i6 i7 i8 hf;subst hg;simp only[Bwk,Bwp]at O;obtain⟨rfl,rfl⟩:=O;generalize hV:(if h<0 then (13:Int) else _)=V
 have p:=Bc hV;clear hV;by_cases A:h<0
 ·have t:Hid (V=13):=by unfold Hid;rw[<- Ba p,Sp A]
  clear p z;go_in;go_wp2;go_ret;exact⟨by rw[Ba t];rfl,(Bx w _ _).alloc (by simp only[World.alloc,Bw3];omega) _⟩
 by_cases D:30<h
 ·have t:Hid (V=13):=by unfold Hid;rw[<- Ba p,Pf A,Sp D]
  clear p z;go_in;go_wp2;go_ret;exact⟨by rw[Ba t];rfl,(Bx w _ _).alloc (by simp only[World.alloc,Bw3];omega) _⟩
 by_cases G:d<1
 ·have t:Hid (V=13):=by unfold Hid;rw[<- Ba p,Pf A,Pf D,Sp G]
  clear p z;go_in;go_wp2;go_ret;exact⟨by rw[Ba t];rfl,(Bx w _ _).alloc (by simp only[World.alloc,Bw3];omega) _⟩
 by_cases Q:12<d
 ·have t:Hid (V=13):=by unfold Hid;rw[<- Ba p,Pf A,Pf D,Pf G,Sp Q]
  clear p z;go_in;go_wp2;go_ret;exact⟨by rw[Ba t];rfl,(Bx w _ _).alloc (by simp only[World.alloc,Bw3];omega) _⟩
 by_cases Z:F<0
 ·have t:Hid (V=13):=by unfold Hid;rw[<- Ba p,Pf A,Pf D,Pf G,Pf Q,Sp Z]
  clear p z;go_in;go_wp2;go_ret;exact⟨by rw[Ba t];rfl,(Bx w _ _).alloc (by simp only[World.alloc,Bw3];omega) _⟩
 by_cases c7:3000<F
 ·have t:Hid (V=13):=by unfold Hid;rw[<- Ba p,Pf A,Pf D,Pf G,Pf Q,Pf Z,Sp c7]
  clear p z;go_in;go_wp2;go_ret;exact⟨by rw[Ba t];rfl,(Bx w _ _).alloc (by simp only[World.alloc,Bw3];omega) _⟩
 have Y:Hid ((if Js b=false then (13:Int) else 0)=V):=by unfold Hid;rw[<- Ba p,Pf A,Pf D,Pf G,Pf Q,Pf Z,Pf c7]
 clear p;by_cases c8:20<b.length
 ·have t:Hid (V=13):=by unfold Hid;rw[<- Ba Y,Js,Sp c8];rfl
  have a6:(20:Int)<(b.length:Int):=Bd;clear Y z;go_in;go_wp2;go_ret;exact⟨by rw[Ba t];rfl,(Bx w _ _).alloc (by simp only[World.alloc,Bw3];omega) _⟩
 have a6:¬(20:Int)<(b.length:Int):=Bd;have B:Hid ((if I9 (b.drop 0)=false then (13:Int) else 0)=V):=by unfold Hid;rw[<- Ba Y,Js,Pf c8];rfl
 clear Y;have I:=Bc z;clear z;go_in;go_wp2;generalize J:World.alloc (World.alloc (World.alloc w _) _) _=K;have L:Bl w K:=by rw[<- J];exact(Bx w _ _).alloc (by simp only[World.alloc,Bw3];omega) _
 have z9:K.cell? { block:=w.heap.size+1,off:=1 }=some (.s N b.length ic):=by
  rw[<- J];exact Bb (stay (Bwu (Vm _ _) (Wf _) _) (Bv w _ _)) 1
 have b4:w.heap.size+1<K.heap.size:=by rw[<- J];clear J I B L z9;simp only[World.alloc,Bw3];omega
 replace I:Hid (Jk K N b):=Bc ((Ba I).below L);clear J y0 y1 y2 y3 y4 y5 y6 y7 y8 y9 ya yb
 go_loopw [6] (fun v wr=>∃k:Nat,k<=b.length/\v=.i (k:Int)/\Hid ((if I9 (b.drop k)=false then (13:Int) else 0)=V)/\wr=K)
  (fun v _=>b.length-(intOf v).toNat)
 case atStart=>exact⟨0,Bd,rfl,B,rfl⟩
 case round=>
  clear B;obtain⟨k,hk,rfl,B,rfl⟩:=hrel;by_cases a0:k<b.length
  ·obtain⟨g2,o,a7,b5,z0⟩:=Ba I k a0;have j:=Ba B;rw[Wr a0,I9]at j;have ey:b.getD k 0=b[k]:=by simp[Th,a0]
   rw[ey]at z0;generalize b[k]=x at *;have a8:(k:Int)<(b.length:Int):=Bd;clear B I ey;subst a7;by_cases hx:x < -2147483648;·rw[Sp hx]at j;have C:=Bc j;clear j;go_wp2;go_ret;exact⟨by rw[<- Ba C];rfl,L⟩
   rw[Pf hx]at j;by_cases a4:2147483647<x;·rw[Sp a4]at j;have C:=Bc j;clear j;go_wp2;go_ret;exact⟨by rw[<- Ba C];rfl,L⟩
   rw[Pf a4]at j;have C:Hid ((if I9 (b.drop (k+1))=false then (13:Int) else 0)=V):=j
   clear j;go_wp2;go_roundw
   case rel=>exact⟨k+1,Bd,Lt,C,trivial⟩
   case measure=>simp[intOf];omega
  have j:=Ba B;rw[Bvi Bd,I9]at j;have C:=Bc j;have a8:¬(k:Int)<(b.length:Int):=Bd;clear j B;go_wp2;go_ret;exact⟨by rw[<- Ba C];rfl,L⟩
def Bkh(f:RFl)(c h d g:Int)(b:TI)(j:TA)(l:Nat)(w:TW)(A:f.ok w)(C:∀q∈f.ms,q.1.m.params.length<=1000)(D:b.length<=maxLen)(F:Jk w j b):Calls prog 23 #[f.val,.agg #[.i c,.s j b.length l,.i h,.i d,.i g]] w fun e G=>e=.r (.i (Hi (f.ms.map fun q=>q.1.m) c b h d g))/\Bl w G:=by
 unfold Hi Kh;rw[Bvr];by_cases v:c<0;·rw[Sp v,Sp rfl];exact Bb3 f c h d g b j l w (Or.inl v)
 rw[Pf v];by_cases z:(f.ms.length:Int)<=c;·rw[Sp z,Sp rfl];exact Bb3 f c h d g b j l w (Or.inr z)
 rw[Pf z];obtain⟨q,rfl⟩:=Bvk (show 0<=c by omega);have p:q<f.ms.length:=Bd;have I:(f.ms.map fun q=>q.1.m).getD (Int.toNat (q:Int)) Eu=f.ms[q].1.m:=by simp[Th,p]
 rw[I];have B:=C _ (Bvh p);by_cases t:Mw f.ms[q].1.m=false;·rw[Sp t];exact Bh2 f q h d g b j l w A p B t
 rw[Pf t];exact Bh1 f q h d g b j l w A p B (by simpa using t) D F
def Bp3{b:TW}{s n:Nat}{i:TX}(h:w.ownsRow u s j i n e)(m:∀c,i.ownBlock=some c->b.heap[c]?=w.heap[c]?):b.ownsRow u s j i n e:=by
 obtain⟨f,p|⟨g,q,t,l,v,z,r⟩⟩:=h
 ·exact⟨f,.inl p⟩
 exact⟨f,.inr ⟨g,q,t,l,v,(m g (by rw[l];rfl)).trans z,r⟩⟩
structure Rw where
 t:TypeId
 z:Nat
 v:Value
 n:Nat
 cs:List Value
def Rw.at(r:Rw)(b:Nat)(w:TW):Prop:=w.ownsRow b r.t r.z r.v r.n r.cs
structure Own(w0:World)(L:List Rw)(w:World):Prop where
 row:∀r∈L,r.at w0.heap.size w
 nd:L.Pairwise fun a b=>∀j,a.v.ownBlock=some j->b.v.ownBlock≠some j
 low:Below w0.heap.size w0 w
def Own.sub{v:TW}{f b:List Rw}(h:Own v f w)(s:b.Sublist f):Own v b w:=⟨fun r c=>h.row r (s.subset c),h.nd.sublist s,h.low⟩
def Own.perm{v:TW}{f b:List Rw}(h:Own v f w)(s:f.Perm b):Own v b w :=
 ⟨fun r c=>h.row r (s.mem_iff.2 c),(List.Perm.pairwise_iff (fun k j e g=>k j g e) s).1 h.nd,h.low⟩
def Own.mid{v:TW}{L X:List Rw}{r:Rw}(h:Own v (r::(L++X)) w):Own v (L++r::X) w:=h.perm List.perm_middle.symm
def Own.unmid{v:TW}{f X:List Rw}{r:Rw}(h:Own v (f++r::X) w):Own v (r::(f++X)) w:=h.perm List.perm_middle
def Own.below{v b:TW}{f:List Rw}(h:Own v f w)(c:Bl w b):Own v f b :=
 ⟨fun r e=>Bp3 (h.row r e) (fun j g=>c.block j ((h.row r e).lt j g).2),h.nd,h.low.trans (c.mono h.low.size)⟩
def Own.add{c:TW}{f:List Rw}{r:Rw}(h:Own c f w)(e:r.at c.heap.size w)(g:∀j,r.v.ownBlock=some j->∀x∈f,x.v.ownBlock≠some j):Own c (r::f) w :=
 ⟨fun x b=>by rcases List.mem_cons.1 b with rfl|b;exact e;exact h.row x b,List.pairwise_cons.2 ⟨fun x b j i=>g j i x b,h.nd⟩,h.low⟩
def Own.add_new{c b:TW}{f:List Rw}{r:Rw}(h:Own c f w)(m:Bl w b)(i:b.ownsRow w.heap.size r.t r.z r.v r.n r.cs):Own c (r::f) b:=by
 refine(h.below m).add ?_ (fun j p x q e=>?_)
 ·obtain⟨l,s|⟨g,A,B,C,D,r⟩⟩:=i
  ·exact⟨l,.inl s⟩
  exact⟨l,.inr ⟨g,A,B,C,Bvv h.low.size D,r⟩⟩
 have:=(i.lt j p).1;have:=((h.row x q).lt j e).2;omega
def Own.add_nil{v:TW}{f:List Rw}(h:Own v f w)(t:TypeId)(z:Nat):Own v (⟨t,z,.s none 0 0,0,[]⟩::f) w :=
 h.add (Bvl _ _ _ _) (fun j b=>by simp[Value.ownBlock]at b)
def Own.var{v:TW}{f:List Rw}(h:Own v f w)(b:Array Value)(t:TypeId):Own v (⟨t,b.size,.s (.p w.heap.size) 1 1,1,b.toList⟩::f) (w.alloc (.cells b t)) :=
 h.add_new (QN _) (World.ownsRow_lit w b 1 (Wf _) Ck Fr)
def Own.upd{i l:TW}{f p:List Rw}{r m:Rw}(h:Own i (f++r::p) w)(b:w.grownBy l r.v.ownBlock)(z:m.at i.heap.size l)(A:∀j,m.v.ownBlock=some j->r.v.ownBlock=some j\/w.heap.size<=j):Own i (f++m::p) l:=by
 have c:=h.unmid;refine Own.mid (Own.add ⟨fun x g=>?_,(List.pairwise_cons.1 c.nd).2,?_⟩ z (fun j B x g e=>?_))
 ·refine(c.row x (by simp[g])).kept b ?_;cases e:x.v.ownBlock with
  | none=>exact .inl rfl
  | some j=>exact .inr (fun C=>(List.pairwise_cons.1 c.nd).1 x g j C.symm e)
 ·exact⟨b.os.trans h.low.os,b.tape.trans h.low.tape,b.output.trans h.low.output,Bvv h.low.size b.size,
   fun q s=>(b.block q (Bvm s h.low.size) (fun e=>by have:=((c.row r Fr).lt q e.symm).1;omega)).trans (h.low.block q s)⟩
 rcases A j B with t|t
 ·exact(List.pairwise_cons.1 c.nd).1 x g j t e
 have:=((c.row x (by simp[g])).lt j e).2;omega
def Own.at{v:TW}{f:List Rw}(h:Own v f w){i:Nat}{r:Rw}(b:f[i]?=some r):r.at v.heap.size w:=h.row r (Bwv b)
def Own.put{b c:TW}{f:List Rw}{r g:Rw}(h:Own b f w)(l:f[u]?=some r)(m:w.grownBy c r.v.ownBlock)(p:g.at b.heap.size c)(q:∀j,g.v.ownBlock=some j->r.v.ownBlock=some j\/w.heap.size<=j):Own b (f.set u g) c:=by
 obtain⟨s,e⟩:=List.getElem?_eq_some_iff.1 l;have t:f=f.take u++r::f.drop (u+1):=by rw[<- e,List.getElem_cons_drop,Bxm]
 rw[By5,Sp s];rw[t]at h;exact h.upd m p q
def Own.app{v q:TW}{f:List Rw}{i n:Nat}{b p:TX}{T:TV}(h:Own v f w){K:Nat}(A:f[i]?=some ⟨g,j,b,n,e⟩)(B:q.ownsRow v.heap.size g j p K T)(C:w.grownBy q b.ownBlock)(D:p.ownBlock=b.ownBlock\/p.ownBlock=some w.heap.size):Own v (f.set i ⟨g,j,p,K,T⟩) q :=
 h.put A C B (fun c s=>by
  rcases D with l|l
  ·exact .inl (by rw[<- l];exact s)
  exact .inr (by rw[l]at s;simp at s;omega))
def Own.cell{v:TW}{f:List Rw}{i n b K:Nat}{z:Nat}(h:Own v f w)(l:f[i]?=some ⟨g,z,.s (.p b) n K,n,e⟩)(j:Nat)(u:TX):Own v (f.set i ⟨g,z,.s (.p b) n K,n,e.set j u⟩) (w.setCell (.a b j) u):=by
 obtain⟨m,q⟩:=World.ownsRow.stored (h.at l) j u;exact h.put l q m (fun j A=>.inl A)
def Own.cellE{v:TW}{f:List Rw}{i n K:Nat}{z:Nat}{T:TV}(h:Own v f w)(m:f[i]?=some ⟨g,z,.s (.p j) n K,n,e⟩){b:Nat}{u:TX}(l:e.set b u=T):Own v (f.set i ⟨g,z,.s (.p j) n K,n,T⟩) (w.setCell (.a j b) u):=by
 rw[<- l];exact h.cell m b u
def Bl7{f n i c:Nat}{a:TA}(h:w.ownsRow u f j (.s a n c) n e)(m:i<=n):w.ownsRow u f j (.s a i c) i (e.take (i*j)):=by
 obtain⟨p,⟨l,D⟩|⟨g,F,q,l,t,v,G,A,B,C⟩⟩:=h
 ·simp only[Value.slice.injEq]at l;obtain⟨rfl,rfl,rfl⟩:=l;obtain rfl:i=0:=Bd;exact⟨Fr,.inl ⟨rfl,rfl⟩⟩
 simp only[Value.slice.injEq,Byl]at l;obtain⟨rfl,rfl⟩:=l;have:i*j<=n*j:=Bze _ m;refine⟨by rw[Bxf,p];omega,.inr ⟨g,c,q,rfl,t,v,Bd,A,B,?_⟩⟩;rw[<- C,Bxu,Bx5 this]
def Own.cut{v:TW}{f:List Rw}{i n n':Nat}{a:TA}{z:Nat}(h:Own v f w)(l:f[i]?=some ⟨g,z,.s a n j,n,e⟩)(m:n'<=n):Own v (f.set i ⟨g,z,.s a n' j,n',e.take (n'*z)⟩) w :=
 h.put l ⟨rfl,rfl,rfl,Wf _,fun _ _ _=>rfl⟩ (Bl7 (h.at l) m) (fun b p=>.inl (by cases a<;>exact p))
def Own.nil{v:TW}{f:List Rw}{i:Nat}{r:Rw}(h:Own v f w)(b:f[i]?=some r)(t:TypeId)(z:Nat):Own v (f.set i ⟨t,z,.s none 0 0,0,[]⟩) w :=
 h.put b ⟨rfl,rfl,rfl,Wf _,fun _ _ _=>rfl⟩ (Bvl _ _ _ _) (fun j c=>by simp[Value.ownBlock]at c)
theorem Own.see{v w:World}{L:List Rw}{i n b K:Nat}{z:Nat}{e:List Value}(h:Own v L w)(m:L[i]?=some ⟨g,z,.slice (some ⟨b,0,none⟩) n K,n,e⟩){u:Value}(f:e[j]?=some u):w.cell? ⟨b,j,none⟩=some u:=by
 have l:w.ownsRow v.heap.size g z (.slice (some ⟨b,0,none⟩) n K) n e:=h.at m;rw[World.ownsRow.cellAt l j (by have:=l.1;have:=(List.getElem?_eq_some_iff.1 f).1;omega),f]
def Own.free{v:TW}{L:List Rw}{i n K:Nat}{z:Nat}(h:Own v L w)(f:L[i]?=some ⟨g,z,.s (.p j) n K,n,e⟩)(b:Nat):w.frozen? (.a j b)=false:=World.ownsRow.frozenAt (h.at f) b
def Own.lt{v:TW}{L:List Rw}{i n K:Nat}{z:Nat}(h:Own v L w)(b:L[i]?=some ⟨g,z,.s (.p j) n K,n,e⟩):v.heap.size<=j/\j<w.heap.size:=(h.at b).lt j rfl
def Own.drewN{v:TW}{f:List Rw}(h:Own v f w)(n:Nat):Own v f (w.drewN n):=h.below ⟨rfl,rfl,rfl,Wf _,fun _ _=>rfl⟩
def Own.drew{v:TW}{f:List Rw}(h:Own v f w):Own v f w.drew:=h.below ⟨rfl,rfl,rfl,Wf _,fun _ _=>rfl⟩
def Bds{P:Program}{B:Array Oper}{o:Oper}{a:Act}{K:Act->TW->Prop}{Q:Exit->Act->TW->Prop}{E:Prop} (C:o.guard=none)(s x:Operand)(t:TypeId)(D:o.op=Op.call { callee:=Callee.builtin Builtin.append,args:=#[s,x],argTypes:=#[t,t] }) (l:Nat)(e:TypeId)(i:TypeInfo)(z:TX)(b p:Nat)(F:P.underlying t=some (.s e))(G:P.info? e=some i)(I:i.zero=some z)(J:i.size=b)(L:i.bytes=p)(N:z.cells.size=b)(O:0<b) (v:TX)(n:Nat)(q:TV)(V:a.eval s=v)(Y:w.ownsRow l e b v n q) (A:Addr)(m c:Nat)(g:TV)(Z:a.eval x=.s (some A) m c)(hn:g.length=m*b)(hc:∀j u,g[j]?=some u->w.cell? (A.add j)=some u)(a0:∀u∈g,u.oneCell'=true) (b1:n+m<=maxLen)(b2:(n+m)*p<=140737488355328)(b3:l<=w.heap.size) (hK:∀f h,h.ownsRow l e b f (n+m) (q++g)->w.grownBy h v.ownBlock->(f.ownBlock=v.ownBlock\/f.ownBlock=some w.heap.size)->K (a.put o.dst f) h):if Region.wanted o (yielded B a.tmps)=true then Oper.wp P o a w K Q else E:=by
 have hw:Region.wanted o (yielded B a.tmps)=true:=by simp[Region.wanted,C]
 rw[Sp hw];obtain⟨f,h,a1,r1,r2,_,r3⟩:=run_append_own_at (P:=P) w l t o.type e i z b p F G I J L N O v n q Y A m c g hn hc a0 b1 b2 b3;unfold Oper.wp;simp[execOp,D,resolve,invoke,builtin,V,Z,a1,Result.andThen];exact hK f h r1 r2 r3
structure Ca where
 m:Nat
 p:Nat
 lo:List (Int × Int)
 st:List (Int × Int)
structure Do where
 cl:Int
 set:Bool
 vals:List (Int × Int)
structure Cs where
 os:List Ca
 ts:List Do
 made:Nat
 read:Nat
 out:List Int
 steps:Nat
 status:Int
 value:Int
end Go.Proofs.YtpcgnjolfahacaaGreat
