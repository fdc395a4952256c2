/- the proof's parts -/
import Derived.Test.YtpcgnjolfahacaaGreatPk00
set_option maxRecDepth 100000
set_option maxHeartbeats 40000000
set_option linter.unusedVariables false
set_option linter.unusedSimpArgs false
set_option linter.defProp false
namespace Go.Proofs.YtpcgnjolfahacaaGreat
open Go.RowKit Go.Proofs.Tryz
variable{c i:Int}{e:Option TypeId}{t:Rd.St}{D s:TB}{z:TI}
namespace Tr
def Ok (l:TI):Prop:=0<l.length/\l.getD 0 0 = -1/\∀i,0<i->i<l.length->0<=l.getD i 0/\l.getD i 0<(i:Int)
def itr (l:TI):Nat->Int->Int
 | 0,a=>a
 | k+1,a=>itr l k (ov l a)
def itr_add(l:TI)(i j:Nat)(a:Int):itr l (i+j) a=itr l j (itr l i a):=by
 induction i generalizing a with
 | zero=>simp[itr]
 | succ k ih=>rw[show k+1+j=(k+j)+1 by omega];simp[itr,ih]
def Bm5(l:TI)(a:Int)(h:a<0):ov l a = -1:=by simp[ov,h]
def Bjk(l:TI)(k:Nat):itr l k (-1) = -1:=by
 induction k with
 | zero=>rfl
 | succ j ih=>simp[itr,Bm5 l (-1) Bd,ih]
def A8(h:Ok z){a:Int}(c:0<=a):ov z a<a/\-1<=ov z a:=by
 unfold ov;rw[Pf Bd]
 split
 ·omega
 by_cases b:a.toNat=0;·rw[b,h.2.1];omega
 have:=h.2.2 a.toNat Bd Bd;omega
def Aa(h:Ok z){a:Int}(b:0<a)(c:a<(z.length:Int)):0<=ov z a:=by
 unfold ov;rw[Pf Bd,Pf Bd];exact(h.2.2 a.toNat Bd Bd).1
def itr_down(h:Ok z)(m:Nat)(a:Int)(b:0<=itr z m a):itr z m a+(m:Int)<=a:=by
 induction m generalizing a with
 | zero=>simp[itr]
 | succ k ih =>
  simp only[itr]at b ⊢;have e:=ih (ov z a) b;by_cases c:0<=a;·have:=A8 h c;omega
  rw[Bm5 z a Bd,Bjk]at b;omega
def Bph(l:TI)(c:Int)(n:Nat)(b:Int)(p:0<=c):upTo l c n b=true<->∃j,j<n/\itr l j b=c:=by
 induction n generalizing b with
 | zero=>simp[upTo]
 | succ k ih =>
  unfold upTo;by_cases g:b = -1
  ·rw[Sp g]
   constructor
   ·intro h;cases h
   rintro ⟨j,_,m⟩;rw[g,Bjk]at m;omega
  rw[Pf g];by_cases f:b=c;·rw[Sp f];exact⟨fun _=>⟨0,Bd,f⟩,fun _=>rfl⟩
  rw[Pf f,ih]
  constructor
  ·rintro ⟨j,m,e⟩;exact⟨j+1,Bd,e⟩
  rintro ⟨j,m,e⟩;cases j with
  | zero=>exact absurd e f
  | succ i=>exact⟨i,Bd,e⟩
def below_iff(h:Ok z){a B:Int}(c:0<=B)(f:a<(z.length:Int)):below z a B=true<->∃j,itr z (j+1) a=B:=by
 unfold below;rw[Bph z B _ _ c]
 constructor
 ·rintro ⟨j,_,e⟩;exact⟨j,e⟩
 rintro ⟨j,e⟩;have:=itr_down h (j+1) a Bd;exact⟨j,Bd,e⟩
def below_lt(h:Ok z){a b:Int}(c:0<=b)(f:a<(z.length:Int))(g:below z a b=true):b<a:=by
 obtain⟨j,e⟩:=(below_iff h c f).1 g;have:=itr_down h (j+1) a Bd;omega
def Uf(h:Ok z){a B:Int}(m:0<=B)(p:0<=c)(g:a<(z.length:Int))(q:below z a B=true)(s:below z B c=true):below z a c=true:=by
 have t:=below_lt h m g q;obtain⟨i,e⟩:=(below_iff h m g).1 q;obtain⟨j,f⟩:=(below_iff h p Bd).1 s;refine(below_iff h p g).2 ⟨i+1+j,?_⟩;rw[show i+1+j+1=(i+1)+(j+1) by omega,itr_add,e,f]
def Wh(h:Ok z){a:Int}(c:0<a)(b:a<(z.length:Int)):below z a (ov z a)=true :=
 (below_iff h (Aa h c b) b).2 ⟨0,rfl⟩
def Blk(h:Ok z)(n:Nat):∀{a:Int},a.toNat<=n->0<a->a<(z.length:Int)->below z a 0=true:=by
 induction n with
 | zero=>intro a f j _;omega
 | succ k ih =>
  intro a f e b;have c:=Wh h e b;have m:=A8 h (show 0<=a by omega);have g:=Aa h e b;by_cases i:ov z a=0;·rw[i]at c;exact c
  exact Uf h g Bd b c (ih Bd Bd Bd)
def Bcs(h:Ok z){a B:Int}(f:0<=a)(b:0<=B)(g:a<(z.length:Int))(m:below z a B=true):B=ov z a\/below z (ov z a) B=true:=by
 obtain⟨j,e⟩:=(below_iff h b g).1 m;have p:=A8 h f;cases j with
 | zero=>left;exact e.symm
 | succ i=>right;exact(below_iff h b Bd).2 ⟨i,e⟩
def fits_iff(l:TI)(k n e m:Int):fitsB l k n e m=true<->(k=e/\n=m)\/e=0\/(e=3/\k=2)\/(e=3/\k=3/\below l n m=true):=by
 unfold fitsB;by_cases f:k=e/\n=m;·rw[Sp f];simp[f]
 rw[Pf f];by_cases g:e=0;·rw[Sp g];simp[g]
 rw[Pf g];by_cases h:e=3
 ·rw[Pf Bd];by_cases i:k=2;·rw[Sp i];simp[h,i]
  rw[Pf i];by_cases p:k=3
  ·rw[Sp p]
   constructor
   ·intro j;exact .inr (.inr (.inr ⟨h,p,j⟩))
   rintro (⟨a,b⟩|a|⟨a,b⟩|⟨a,b,c⟩)
   ·exact absurd ⟨a,b⟩ f
   ·exact absurd a g
   ·exact absurd b i
   exact c
  rw[Pf p]
  constructor
  ·intro j;cases j
  rintro (⟨a,b⟩|a|⟨a,b⟩|⟨a,b,c⟩)
  ·exact absurd ⟨a,b⟩ f
  ·exact absurd a g
  ·exact absurd b i
  exact absurd b p
 rw[Sp h]
 constructor
 ·intro j;cases j
 rintro (⟨a,b⟩|a|⟨a,b⟩|⟨a,b,c⟩)
 ·exact absurd ⟨a,b⟩ f
 ·exact absurd a g
 ·exact absurd a h
 exact absurd a h
def Arg (l:TI)(k n:Int):Prop:=(k=0/\n=0)\/(k=1/\n=0)\/(k=2/\n=0)\/(k=3/\0<=n/\n<(l.length:Int))\/(k=4/\0<=n/\n<120)
def fits_refl(l:TI)(k n:Int):fitsB l k n k n=true:=(fits_iff l k n k n).2 (.inl ⟨rfl,rfl⟩)
def fits_anti(h:Ok z){k n b:Int}(g:Arg z k n)(i:Arg z b c)(m:fitsB z k n b c=true)(j:fitsB z b c k n=true):k=b/\n=c:=by
 rcases(fits_iff ..).1 m with e | e|⟨e1,e2⟩|⟨e1,e2,e3⟩
 ·exact e
 ·rcases(fits_iff ..).1 j with f | f|⟨f1,f2⟩|⟨f1,f2,f3⟩
  ·exact⟨f.1.symm,f.2.symm⟩
  ·unfold Arg at g i;omega
  ·omega
  omega
 ·rcases(fits_iff ..).1 j with f | f|⟨f1,f2⟩|⟨f1,f2,f3⟩<;>omega
 rcases(fits_iff ..).1 j with f | f|⟨f1,f2⟩|⟨f1,f2,f3⟩
 ·exact⟨f.1.symm,f.2.symm⟩
 ·omega
 ·omega
 have p:=below_lt h (by unfold Arg at i;omega) (by unfold Arg at g;omega) e3;have g2:=below_lt h (by unfold Arg at g;omega) (by unfold Arg at i;omega) f3;omega
def fits_trans(h:Ok z){k n b g:Int}(p:Arg z k n)(q:Arg z b c)(s:Arg z g i)(j:fitsB z k n b c=true)(m:fitsB z b c g i=true):fitsB z k n g i=true:=by
 rcases(fits_iff ..).1 m with ⟨rfl,rfl⟩ | f|⟨f1,f2⟩|⟨f1,f2,f3⟩
 ·exact j
 ·exact(fits_iff ..).2 (.inr (.inl f))
 ·rcases(fits_iff ..).1 j with ⟨rfl,rfl⟩ | e|⟨e1,e2⟩|⟨e1,e2,e3⟩
  ·exact m
  ·omega
  ·omega
  omega
 rcases(fits_iff ..).1 j with ⟨rfl,rfl⟩ | e|⟨e1,e2⟩|⟨e1,e2,e3⟩
 ·exact m
 ·omega
 ·exact(fits_iff ..).2 (.inr (.inr (.inl ⟨f1,e2⟩)))
 refine(fits_iff ..).2 (.inr (.inr (.inr ⟨f1,e2,?_⟩)));exact Uf h (by unfold Arg at q;omega) (by unfold Arg at s;omega) (by unfold Arg at p;omega) e3 f3
def At (l:TI)(b a:Int):Prop:=a=b\/below l b a=true
def Bif(h:Ok z)(D:0<=c)(B:c<(z.length:Int))(n:Nat):∀{a:Int},0<=a->a<(z.length:Int)->a<(n:Int)->(0<=meetTo z c n a/\meetTo z c n a<(z.length:Int))/\At z a (meetTo z c n a)/\At z c (meetTo z c n a)/\∀f,0<=f->At z a f->At z c f->At z (meetTo z c n a) f:=by
 induction n with
 | zero=>intro a q _ j;omega
 | succ k ih =>
  intro a q i F;unfold meetTo;by_cases t:a=c;·rw[Sp t];exact⟨⟨q,i⟩,.inl rfl,.inl t,fun f _ m _=>m⟩
  rw[Pf t];by_cases j:below z c a=true;·rw[Sp j];exact⟨⟨q,i⟩,.inl rfl,.inr j,fun f _ m _=>m⟩
  rw[Pf j];have v:0<a:=by
   rcases Int.lt_or_le 0 a with g|g
   ·exact g
   exfalso
   have C:a=0:=Bd;subst C;exact j (Blk h c.toNat (Wf _) Bd B)
  have u1:=A8 h q;have u2:=Aa h v i;obtain⟨A,g2,g3,g4⟩:=ih u2 Bd Bd;refine⟨A,?_,g3,?_⟩
  ·rcases g2 with g|g
   ·right;rw[g];exact Wh h v i
   right;exact Uf h u2 A.1 i (Wh h v i) g
  intro f m s p;refine g4 f m ?_ p;rcases s with s|s
  ·subst s;rcases p with p|p
   ·exact absurd p t
   exact absurd p j
  rcases Bcs h q m i s with e|e
  ·exact .inl e
  exact .inr e
def Bng(h:Ok z){a b:Int}(f:0<=a)(e:a<(z.length:Int))(g:0<=b)(i:b<(z.length:Int)):(0<=meet z a b/\meet z a b<(z.length:Int))/\At z a (meet z a b)/\At z b (meet z a b)/\∀c,0<=c->At z a c->At z b c->At z (meet z a b) c :=
 Bif h g i z.length f e e
def fits_ref{a B:Int}:fitsB z 3 a 3 B=true<->At z a B:=by
 rw[fits_iff];unfold At
 constructor
 ·rintro (⟨_,e⟩|e|⟨_,e⟩|⟨_,_,e⟩)
  ·exact .inl e.symm
  ·omega
  ·omega
  exact .inr e
 rintro (e|e)
 ·exact .inl ⟨rfl,e.symm⟩
 exact .inr (.inr (.inr ⟨rfl,rfl,e⟩))
def join_spec(h:Ok z){k n k' n':Int}(s:Arg z k n)(t:Arg z k' n'):Arg z (joinT z (k,n) (k',n')).1 (joinT z (k,n) (k',n')).2/\fitsB z k n (joinT z (k,n) (k',n')).1 (joinT z (k,n) (k',n')).2=true/\fitsB z k' n' (joinT z (k,n) (k',n')).1 (joinT z (k,n) (k',n')).2=true /\ ∀i c,Arg z i c->fitsB z k n i c=true->fitsB z k' n' i c=true->fitsB z (joinT z (k,n) (k',n')).1 (joinT z (k,n) (k',n')).2 i c=true:=by
 unfold joinT;dsimp only;by_cases j:fitsB z k n k' n'=true;·rw[Sp j];exact⟨t,j,fits_refl _ _ _,fun _ _ _ _ g=>g⟩
 rw[Pf j];by_cases q:fitsB z k' n' k n=true;·rw[Sp q];exact⟨s,fits_refl _ _ _,q,fun _ _ _ g _=>g⟩
 rw[Pf q];have v:∀k n,fitsB z k n 0 0=true:=fun k n=>(fits_iff ..).2 (.inr (.inl rfl));by_cases A:k=3
 ·rw[Pf Bd];by_cases C:k'=3
  ·rw[Pf Bd];subst A C;obtain⟨D,g2,g3,g4⟩:=Bng h (a:=n) (b:=n') (by unfold Arg at s;omega) (by unfold Arg at s;omega) (by unfold Arg at t;omega) (by unfold Arg at t;omega);refine⟨.inr (.inr (.inr (.inl ⟨rfl,D.1,D.2⟩))),fits_ref.2 g2,fits_ref.2 g3,?_⟩;intro i c B m p;rcases(fits_iff ..).1 m with ⟨rfl,rfl⟩ | e|⟨e1,e2⟩|⟨rfl,e2,e3⟩
   ·exact absurd p q
   ·subst e;exact(fits_iff ..).2 (.inr (.inl rfl))
   ·omega
   exact fits_ref.2 (g4 c (by unfold Arg at B;omega) (fits_ref.1 m) (fits_ref.1 p))
  rw[Sp C];refine⟨.inl ⟨rfl,rfl⟩,v _ _,v _ _,?_⟩;intro i c B m p;rcases(fits_iff ..).1 p with ⟨rfl,rfl⟩ | e|⟨e1,e2⟩|⟨e1,e2,e3⟩
  ·exact absurd m j
  ·subst e;exact(fits_iff ..).2 (.inr (.inl rfl))
  ·exact absurd ((fits_iff z k' n' k n).2 (.inr (.inr (.inl ⟨A,e2⟩)))) q
  omega
 rw[Sp A];refine⟨.inl ⟨rfl,rfl⟩,v _ _,v _ _,?_⟩;intro i c B m p;rcases(fits_iff ..).1 m with ⟨rfl,rfl⟩ | e|⟨e1,e2⟩|⟨e1,e2,e3⟩
 ·exact absurd p q
 ·subst e;exact(fits_iff ..).2 (.inr (.inl rfl))
 ·rcases(fits_iff ..).1 p with ⟨rfl,rfl⟩ | f|⟨f1,f2⟩|⟨f1,f2,f3⟩
  ·exact absurd m j
  ·omega
  ·exfalso
   unfold Arg at s t;exact j ((fits_iff z k n k' n').2 (.inl ⟨Bd,Bd⟩))
  exact absurd ((fits_iff z k n k' n').2 (.inr (.inr (.inl ⟨f2,e2⟩)))) j
 omega
end Tr
namespace Rf
open Go.Proofs.YtpcgnjolfahacaaGreat (Rd.St Rd.nx Rd.cn Rd.ex Rd.ty Rd.tys Rd.cls Rd.codes Rd.hnd Rd.hnds Rd.mp Rd.mps Rd.mth Rd.fil)
def at' (s:TB)(i:Int):Int:=if i<0 then -1 else if (s.length:Int)<=i then -1 else ((s[i.toNat]?.getD 0).toNat:Int)
def cnt (s:TB)(i least most:Int):Int:=if at' s i<least then -1 else if most<at' s i then -1 else at' s i
def rep {α:Type}(f:Int->α × Int):Nat->Int->List α × Int
 | 0,i=>([],i)
 | k+1,i=>if (rep f k i).2<0 then ([],-1) else if (f (rep f k i).2).2<0 then ([],-1) else ((rep f k i).1++[(f (rep f k i).2).1],(f (rep f k i).2).2)
def ty (s:TB)(i:Int):(Int × Int) × Int:=((at' s i,at' s (i+1)),i+2)
def tys (s:TB)(i:Int):Nat->List (Int × Int)
 | 0=>[]
 | k+1=>tys s i k++[(at' s (i+2*(k:Int)),at' s (i+2*(k:Int)+1))]
def cls (s:TB)(i:Int):Rd.Cls × Int :=
 if cnt s (i+1) 0 4<0 then (⟨0,[]⟩,-1) else (⟨at' s i,tys s (i+2) (cnt s (i+1) 0 4).toNat⟩,i+2+2*cnt s (i+1) 0 4)
def hndAt(s:TB)(i:Int):Rd.Hnd:=⟨at' s i,at' s (i+1),at' s (i+2),at' s (i+3)⟩
def hndTo(s:TB)(i:Int):Nat->List Rd.Hnd
 | 0=>[]
 | k+1=>hndTo s i k++[hndAt s (i+1+4*(k:Int))]
def hnds (s:TB)(i:Int):List Rd.Hnd × Int :=
 if cnt s i 0 4<0 then ([],-1) else if (s.length:Int)<i+1+4*cnt s i 0 4 then ([],-1) else (hndTo s i (cnt s i 0 4).toNat,i+1+4*cnt s i 0 4)
def mp (s:TB)(L H i:Int):Rd.Mp × Int :=
 if cnt s (i+1+2*L) 0 H<0 then (⟨0,[],[]⟩,-1)
 else (⟨at' s i,tys s (i+1) L.toNat,tys s (i+2+2*L) (cnt s (i+1+2*L) 0 H).toNat⟩,i+2+2*L+2*cnt s (i+1+2*L) 0 H)
def mps (s:TB)(i L H:Int):List Rd.Mp × Int :=
 if cnt s i 0 64<0 then ([],-1) else rep (mp s L H) (cnt s i 0 64).toNat (i+1)
def codeTo(s:TB)(i:Int):Nat->List Int
 | 0=>[]
 | k+1=>codeTo s i k++[at' s (i+(k:Int))]
structure Mth where
 m:Rd.Mth
 mapsAt:Int
 fin:Int
def mth (s:TB)(i:Int):Mth × Int :=
 let p:=cnt s (i+2) 0 4
 if p<0 then (⟨⟨0,0,[],(0,0),0,0,[],[],[]⟩,0,0⟩,-1)
 else
  let j:=i+3+2*p
  let l:=cnt s (j+2) 0 8
  let h:=cnt s (j+3) 0 8
  let n:=cnt s (j+4) 1 120
  if l<0 then (⟨⟨0,0,[],(0,0),0,0,[],[],[]⟩,0,0⟩,-1)
  else if h<0 then (⟨⟨0,0,[],(0,0),0,0,[],[],[]⟩,0,0⟩,-1)
  else if n<0 then (⟨⟨0,0,[],(0,0),0,0,[],[],[]⟩,0,0⟩,-1)
  else if (s.length:Int)<j+5+n then (⟨⟨0,0,[],(0,0),0,0,[],[],[]⟩,0,0⟩,-1)
  else
   let hs:=hnds s (j+5+n)
   if hs.2<0 then (⟨⟨0,0,[],(0,0),0,0,[],[],[]⟩,0,0⟩,-1)
   else
    let ms:=mps s hs.2 l h
    (⟨⟨at' s i,at' s (i+1),tys s (i+3) p.toNat,(at' s j,at' s (j+1)),l,h,codeTo s (j+5) n.toNat,hs.1,ms.1⟩,hs.2,ms.2⟩,ms.2)
def fil (s:TB):List Rd.Cls × List Mth × Int :=
 if at' s 0≠83 then ([],[],-1)
 else if at' s 1≠77 then ([],[],-1)
 else if cnt s 2 0 6<0 then ([],[],-1)
 else
  let cs:=rep (cls s) (cnt s 2 0 6).toNat 3
  if cs.2<0 then ([],[],-1)
  else if cnt s cs.2 1 6<0 then ([],[],-1)
  else
   let ms:=rep (mth s) (cnt s cs.2 1 6).toNat (cs.2+1)
   if ms.2<0 then ([],[],-1) else (cs.1,ms.1,ms.2)
def Lnk {α β:Type}(g:β->α)(n:Nat)(r:α × Rd.St)(x:β × Int):Prop :=
 (0<=x.2/\x.2<=(n:Int)/\r.1=g x.1/\r.2=⟨x.2.toNat,false⟩)\/((x.2<0\/(n:Int)<x.2)/\r.2.bad=true)
def Y9(b:0<=c)(e:c<(D.length:Int)):Rd.nx D ⟨c.toNat,false⟩=(at' D c,⟨(c+1).toNat,false⟩):=by
 unfold Rd.nx at';rw[Pf Fr,Pf Ls,Pf Bd,Pf Bd];rw[show (c+1).toNat=c.toNat+1 by omega]
def at_out(b:(D.length:Int)<=c):at' D c = -1:=by
 unfold at'
 split
 ·rfl
 rfl
def Xz(b:(D.length:Int)<=c):Rd.nx D ⟨c.toNat,false⟩=(0,⟨c.toNat,true⟩):=by
 unfold Rd.nx;rw[Pf Fr,Sp Ls]
def at_bd(s:TB)(i:Int):-1<=at' s i/\at' s i<=255:=by
 unfold at'
 split
 ·omega
 split
 ·omega
 have:=(s[i.toNat]?.getD 0).toNat_lt;omega
def cnt_bd(s:TB)(i a b:Int)(c:-1<=b):-1<=cnt s i a b/\cnt s i a b<=b:=by
 have:=at_bd s i;unfold cnt
 split
 ·omega
 split<;>omega
def Me{a b:Int}(h:(D.length:Int)<=i)(c:0<=a):cnt D i a b = -1:=by
 unfold cnt;rw[at_out h,Sp Bd]
def Gl(s:TB)(p:Nat):(Rd.nx s ⟨p,true⟩).2.bad=true:=by simp[Rd.nx]
def Di(t:Rd.St)(h:t.bad=true):∃p,t=⟨p,true⟩:=⟨t.pos,by cases t;simp_all⟩
def Rc(b:0<=i)(c:i<=(s.length:Int)):Lnk id s.length (Rd.nx s ⟨i.toNat,false⟩) (at' s i,i+1):=by
 by_cases h:i<(s.length:Int)
 ·left
  rw[Y9 b h];exact⟨Ls,Ls,rfl,rfl⟩
 right
 rw[Xz Bd];exact⟨.inr Ls,rfl⟩
def Rh{a b:Int}(f:0<=i)(l:i<=(s.length:Int))(g:0<=a):(0<=cnt s i a b/\i<(s.length:Int)/\Rd.cn s a b ⟨i.toNat,false⟩=(cnt s i a b,⟨(i+1).toNat,false⟩))\/(cnt s i a b<0/\(Rd.cn s a b ⟨i.toNat,false⟩).2.bad=true):=by
 by_cases h:i<(s.length:Int)
 ·have m:=at_bd s i;have j:0<=at' s i:=by unfold at';rw[Pf Bd,Pf Bd];omega
  unfold Rd.cn cnt;rw[Y9 f h];by_cases c:at' s i<a;·right;rw[Sp c,Sp c];exact⟨Bd,rfl⟩
  rw[Pf c,Pf c];by_cases e:b<at' s i;·right;rw[Sp e,Sp e];exact⟨Bd,rfl⟩
  left;rw[Pf e,Pf e];exact⟨j,h,rfl⟩
 right
 refine⟨by rw[Me Bd g];omega,?_⟩;unfold Rd.cn;rw[Xz Bd]
 split
 ·rfl
 split<;>rfl
def J4(s:TB)(a b:Int)(p:Nat):(Rd.cn s a b ⟨p,true⟩).2.bad=true:=by
 unfold Rd.cn
 split
 ·rfl
 split
 ·rfl
 exact Gl s p
def Vk{α β:Type}{g:β->α}{n:Nat}{f:Rd.St->α×Rd.St}{F:Int->β×Int}(c:∀i:Int,0<=i->i<=(n:Int)->Lnk g n (f ⟨i.toNat,false⟩) (F i)) (h:∀p,(f ⟨p,true⟩).2.bad=true)(j:∀i:Int,(n:Int)<i->(F i).2<0\/(n:Int)<(F i).2)(k:Nat)(i:Int)(l:0<=i)(m:i<=(n:Int)):Lnk (List.map g) n (Rd.rep f k ⟨i.toNat,false⟩) (rep F k i):=by
 induction k with
 | zero=>left;exact⟨l,m,rfl,rfl⟩
 | succ k ih =>
  unfold Rd.rep rep;rcases ih with ⟨q,s,t,v⟩|⟨b,z⟩
  ·rw[Pf Bd,t,v];rcases c _ q s with ⟨A,B,C,D⟩|⟨G,I⟩
   ·left
    rw[Pf Bd];exact⟨A,B,by simp[C],D⟩
   right
   refine⟨?_,I⟩
   split
   ·left;simp
   exact G
  right
  refine⟨?_,?_⟩
  ·split
   ·left;simp
   split
   ·left;simp
   rcases b with b|b
   ·omega
   rcases j _ b with e|e
   ·omega
   right;exact e
  obtain⟨p,J⟩:=Di _ z;rw[J];exact h p
def Oo{α:Type}{f:Rd.St->α×Rd.St}(b:∀p,(f ⟨p,true⟩).2.bad=true)(k:Nat)(p:Nat):(Rd.rep f k ⟨p,true⟩).2.bad=true:=by
 induction k with
 | zero=>rfl
 | succ k ih =>
  unfold Rd.rep;obtain⟨q,c⟩:=Di _ ih;simp only;rw[c];exact b q
end Rf
namespace Rf
def Bbw(s:TB)(p:Nat):(Rd.ty s ⟨p,true⟩).2.bad=true:=by
 unfold Rd.ty;obtain⟨q,b⟩:=Di _ (Gl s p);simp only;rw[b];exact Gl s q
def Bme(h:0<=i)(j:i<=(s.length:Int)):Lnk id s.length (Rd.ty s ⟨i.toNat,false⟩) (ty s i):=by
 unfold Rd.ty ty;rcases Rc h j with ⟨_,b,c,e⟩|⟨l,m⟩
 ·simp only at b c e;rw[c,e];rcases Rc (s:=s) (i:=i+1) Bd b with ⟨_,p,f,g⟩|⟨t,v⟩
  ·simp only at p f g
   left
   exact⟨Ls,Ls,by simp only[f,id_eq],by simp only[g];rw[show i+1+1=i+2 by omega]⟩
  simp only at t
  right
  exact⟨.inr Ls,v⟩
 simp only at l;obtain⟨q,z⟩:=Di _ m
 right
 refine⟨.inr Ls,?_⟩;simp only;rw[z];exact Gl s q
def rep_step{α:Type}{f:Int->α×Int}{k:Nat}{B b:Int}{l:List α}{x:α}(h:rep f k c=(l,B))(g:0<=B)(e:f B=(x,b))(m:0<=b):rep f (k+1) c=(l++[x],b):=by
 unfold rep;rw[h];show (if B<0 then ([],-1) else if (f B).2<0 then ([],-1) else (l++[(f B).1],(f B).2))=_
 rw[Pf Bd,e];exact Pf Ls
def Br0(s:TB)(k:Nat)(i:Int)(b:0<=i):rep (ty s) k i=(tys s i k,i+2*(k:Int)):=by
 induction k with
 | zero=>simp[rep,tys]
 | succ k ih =>
  rw[rep_step ih Bd rfl Bd];refine Bxd rfl ?_;simp only;omega
def Nc(s:TB)(k p:Nat):(Rd.tys s k ⟨p,true⟩).2.bad=true:=Oo (Bbw s) k p
def Ax(k:Nat)(c:0<=i)(e:i<=(s.length:Int)):Lnk id s.length (Rd.tys s k ⟨i.toNat,false⟩) (tys s i k,i+2*(k:Int)):=by
 have h:=Vk (g:=id) (fun i a b=>Bme (s:=s) a b) (Bbw s) (fun i f=>.inr (by simp only[ty];omega)) k i c e;rw[Br0 s k i c]at h;unfold Rd.tys;simpa[Lnk] using h
def Bjr(s:TB)(p:Nat):(Rd.cls s ⟨p,true⟩).2.bad=true:=by
 unfold Rd.cls;obtain⟨q,b⟩:=Di _ (Gl s p);obtain⟨c,e⟩:=Di _ (J4 s 0 4 q);simp only;rw[b,e];exact Nc s _ c
def Bs4(s:TB)(i:Int)(h:(s.length:Int)<i):(cls s i).2<0:=by
 unfold cls;rw[Me Bd Bd,Sp Bd]
 decide
def Bs5(l:0<=i)(m:i<=(s.length:Int)):Lnk id s.length (Rd.cls s ⟨i.toNat,false⟩) (cls s i):=by
 unfold Rd.cls cls;rcases Rc l m with ⟨_,e,f,g⟩|⟨p,t⟩
 ·simp only at e f g;simp only;rw[f,g];rcases Rh (s:=s) (i:=i+1) (a:=0) (b:=4) Bd e Bd with ⟨I,J,v⟩|⟨z,A⟩
  ·rw[Pf Bd,v];simp only;rcases Ax (s:=s) (i:=i+1+1) (cnt s (i+1) 0 4).toNat Bd Bd with ⟨_,B,h,j⟩|⟨C,D⟩
   ·simp only at B h j
    left
    rw[show i+1+1=i+2 by omega]at *;refine⟨Ls,Ls,?_,?_⟩
    ·simp only[h,id_eq]
    rw[j];simp only;congr 2;omega
   simp only at C
   right
   exact⟨.inr Ls,D⟩
  rw[Sp z]
  right
  obtain⟨q,c⟩:=Di _ A;simp only;rw[c];exact⟨.inl Ck,Nc s _ q⟩
 simp only at p;rw[Me Bd Bd,Sp Bd]
 right
 obtain⟨q,c⟩:=Di _ t;obtain⟨F,G⟩:=Di _ (J4 s 0 4 q);simp only;rw[c,G];exact⟨.inl Ck,Nc s _ F⟩
def Bq3(s:TB)(k:Nat)(i:Int)(b:0<=i):rep (fun i=>(at' s i,i+1)) k i=(codeTo s i k,i+(k:Int)):=by
 induction k with
 | zero=>simp[rep,codeTo]
 | succ k ih =>
  rw[rep_step ih Bd rfl Bd];refine Bxd rfl ?_;simp only;omega
def Bq4(k:Nat)(c:0<=i)(e:i<=(s.length:Int)):Lnk id s.length (Rd.rep (Rd.nx s) k ⟨i.toNat,false⟩) (codeTo s i k,i+(k:Int)):=by
 have h:=Vk (g:=id) (F:=fun i=>(at' s i,i+1)) (fun i a b=>Rc (s:=s) a b) (Gl s) (fun i f=>.inr Ls) k i c e;rw[Bq3 s k i c]at h;simpa[Lnk] using h
def Bde(s:TB)(p:Nat):(Rd.hnd s ⟨p,true⟩).2.bad=true:=by
 unfold Rd.hnd;obtain⟨q,b⟩:=Di _ (Gl s p);obtain⟨c,e⟩:=Di _ (Gl s q);obtain⟨f,g⟩:=Di _ (Gl s c);simp only;rw[b,e,g];exact Gl s f
def Bsw(f:0<=i)(t:i<=(s.length:Int)):Lnk id s.length (Rd.hnd s ⟨i.toNat,false⟩) (hndAt s i,i+4):=by
 by_cases h:i+4<=(s.length:Int)
 ·left
  unfold Rd.hnd hndAt;simp only;rw[Y9 f Bd,Y9 Bd Bd,Y9 Bd Bd,Y9 Bd Bd];refine⟨Bd,h,?_,?_⟩
  ·simp only[id_eq,show i+1+1=i+2 by omega,show i+2+1=i+3 by omega]
  simp only;congr 2;omega
 right
 refine⟨.inr Ls,?_⟩;unfold Rd.hnd;simp only;rcases Rc f t with ⟨_,g,_,j⟩|⟨_,v⟩
 ·simp only at g j;rw[j];rcases Rc (s:=s) (i:=i+1) Bd g with ⟨_,l,_,m⟩|⟨_,z⟩
  ·simp only at l m;rw[m];rcases Rc (s:=s) (i:=i+1+1) Bd l with ⟨_,A,_,p⟩|⟨_,B⟩
   ·simp only at A p;rw[p,Xz Bd]
   obtain⟨q,b⟩:=Di _ B;rw[b];exact Gl s q
  obtain⟨q,b⟩:=Di _ z;obtain⟨c,e⟩:=Di _ (Gl s q);rw[b,e];exact Gl s c
 obtain⟨q,b⟩:=Di _ v;obtain⟨c,e⟩:=Di _ (Gl s q);obtain⟨C,D⟩:=Di _ (Gl s c);rw[b,e,D];exact Gl s C
def Bsv(s:TB)(k:Nat)(i:Int)(b:0<=i):rep (fun i=>(hndAt s i,i+4)) k (i+1)=(hndTo s i k,i+1+4*(k:Int)):=by
 induction k with
 | zero=>simp[rep,hndTo]
 | succ k ih =>
  rw[rep_step ih Bd rfl Bd];refine Bxd rfl ?_;simp only;omega
def Bg5(s:TB)(p:Nat):(Rd.hnds s ⟨p,true⟩).2.bad=true:=by
 unfold Rd.hnds;obtain⟨q,b⟩:=Di _ (J4 s 0 4 p);simp only;rw[b];exact Oo (Bde s) _ q
def Bqs(c:0<=i)(j:i<=(s.length:Int)):Lnk id s.length (Rd.hnds s ⟨i.toNat,false⟩) (hnds s i):=by
 unfold Rd.hnds hnds;rcases Rh (s:=s) (i:=i) (a:=0) (b:=4) c j Bd with ⟨B,C,l⟩|⟨m,p⟩
 ·rw[Pf Bd,l];simp only;have h:=Vk (g:=id) (F:=fun i=>(hndAt s i,i+4)) (fun i a b=>Bsw (s:=s) a b) (Bde s) (fun i D=>.inr Ls) (cnt s i 0 4).toNat (i+1) Bd Bd;rw[Bsv s _ i c]at h;rcases h with ⟨_,t,e,f⟩|⟨v,z⟩
  ·simp only at t e f
   left
   rw[Pf Bd];refine⟨Ls,Ls,?_,?_⟩
   ·simp only[e,id_eq,List.map_id_fun]
   rw[f];simp only;congr 2;omega
  simp only at v
  right
  rw[Sp Bd];exact⟨.inl Ck,z⟩
 rw[Sp m]
 right
 obtain⟨q,A⟩:=Di _ p;simp only;rw[A];exact⟨.inl Ck,Oo (Bde s) _ q⟩
def Bgr(s:TB)(L H:Int)(p:Nat):(Rd.mp s L H ⟨p,true⟩).2.bad=true:=by
 unfold Rd.mp;obtain⟨q,b⟩:=Di _ (Gl s p);obtain⟨c,e⟩:=Di _ (Nc s L.toNat q);obtain⟨f,g⟩:=Di _ (J4 s 0 H c);simp only;rw[b,e,g];exact Nc s _ f
def Bud{H:Int}(Z:0<=c)(z:0<=i)(A:i<=(s.length:Int)):Lnk id s.length (Rd.mp s c H ⟨i.toNat,false⟩) (mp s c H i):=by
 unfold Rd.mp mp;rcases Rc z A with ⟨_,j,l,m⟩|⟨B,C⟩
 ·simp only at j l m;simp only;rw[l,m];rcases Ax (s:=s) (i:=i+1) c.toNat Bd j with ⟨_,f,p,t⟩|⟨D,F⟩
  ·simp only at f p t;rw[p,t];have G:i+1+2*((c.toNat:Nat):Int)=i+1+2*c:=Bd;rw[G]at f ⊢;rcases Rh (s:=s) (i:=i+1+2*c) (a:=0) (b:=H) Bd f Bd with ⟨c0,c1,I⟩|⟨J,K⟩
   ·rw[Pf Bd,I];simp only;rcases Ax (s:=s) (i:=i+1+2*c+1) (cnt s (i+1+2*c) 0 H).toNat Bd Bd with ⟨_,v,g2,g3⟩|⟨N,O⟩
    ·simp only at v g2 g3
     left
     have Q:i+1+2*c+1=i+2+2*c:=Bd;rw[Q]at v g2 g3 ⊢;refine⟨Ls,Ls,?_,?_⟩
     ·simp only[g2,id_eq]
     rw[g3];simp only;congr 2;omega
    simp only at N
    right
    exact⟨.inr Ls,O⟩
   rw[Sp J]
   right
   obtain⟨q,e⟩:=Di _ K;simp only;rw[e];exact⟨.inl Ck,Nc s _ q⟩
  simp only at D;rw[Me Bd Bd,Sp Bd]
  right
  obtain⟨q,e⟩:=Di _ F;obtain⟨g,h⟩:=Di _ (J4 s 0 H q);simp only;rw[e,h];exact⟨.inl Ck,Nc s _ g⟩
 simp only at B;rw[Me Bd Bd,Sp Bd]
 right
 obtain⟨q,e⟩:=Di _ C;obtain⟨V,Y⟩:=Di _ (Nc s c.toNat q);obtain⟨g,h⟩:=Di _ (J4 s 0 H V);simp only;rw[e,Y,h];exact⟨.inl Ck,Nc s _ g⟩
def Bjf(s:TB)(L H:Int)(p:Nat):(Rd.mps s L H ⟨p,true⟩).2.bad=true:=by
 unfold Rd.mps;obtain⟨q,b⟩:=Di _ (J4 s 0 64 p);simp only;rw[b];exact Oo (Bgr s L H) _ q
def Bsf{L H:Int}(c:0<=L)(e:0<=i)(f:i<=(s.length:Int)):Lnk id s.length (Rd.mps s L H ⟨i.toNat,false⟩) (mps s i L H):=by
 unfold Rd.mps mps;rcases Rh (s:=s) (i:=i) (a:=0) (b:=64) e f Bd with ⟨t,v,j⟩|⟨l,m⟩
 ·rw[Pf Bd,j];simp only;have h:=Vk (g:=id) (fun i a b=>Bud (s:=s) (H:=H) c a b) (Bgr s L H) (fun i z=>.inl (by unfold mp;rw[Me Bd Bd,Sp Bd];decide)) (cnt s i 0 64).toNat (i+1) Bd Bd;simpa[Lnk] using h
 rw[Sp l]
 right
 obtain⟨q,p⟩:=Di _ m;simp only;rw[p];exact⟨.inl Ck,Oo (Bgr s L H) _ q⟩
def Bje(s:TB)(p:Nat):(Rd.mth s ⟨p,true⟩).2.bad=true:=by
 unfold Rd.mth;obtain⟨e,f⟩:=Di _ (Gl s p);obtain⟨b,g⟩:=Di _ (Gl s e);obtain⟨h,i⟩:=Di _ (J4 s 0 4 b);obtain⟨j,l⟩:=Di _ (Nc s (Rd.cn s 0 4 ⟨b,true⟩).1.toNat h);obtain⟨m,t⟩:=Di _ (Bbw s j);obtain⟨v,z⟩:=Di _ (J4 s 0 8 m);obtain⟨c,A⟩:=Di _ (J4 s 0 8 v);obtain⟨B,C⟩:=Di _ (show (Rd.codes s ⟨c,true⟩).2.bad=true by
  unfold Rd.codes;obtain⟨q,D⟩:=Di _ (J4 s 1 120 c);simp only;rw[D];exact Oo (Gl s) _ q)
 obtain⟨F,G⟩:=Di _ (Bg5 s B);simp only;rw[f,g,i,l,t,z,A,C,G];exact Bjf s _ _ F
def Bol(s:TB)(p:Nat):(Rd.codes s ⟨p,true⟩).2.bad=true:=by
 unfold Rd.codes;obtain⟨q,b⟩:=Di _ (J4 s 1 120 p);simp only;rw[b];exact Oo (Gl s) _ q
def g10 (s:TB)(l h:Int)(t:Rd.St):Rd.St:=(Rd.mps s l h t).2
def g9 (s:TB)(l h:Int)(t:Rd.St):Rd.St:=g10 s l h (Rd.hnds s t).2
def g8 (s:TB)(l h:Int)(t:Rd.St):Rd.St:=g9 s l h (Rd.codes s t).2
def g7 (s:TB)(l:Int)(t:Rd.St):Rd.St:=g8 s l (Rd.cn s 0 8 t).1 (Rd.cn s 0 8 t).2
def g6 (s:TB)(t:Rd.St):Rd.St:=g7 s (Rd.cn s 0 8 t).1 (Rd.cn s 0 8 t).2
def g5 (s:TB)(t:Rd.St):Rd.St:=g6 s (Rd.ty s t).2
def g4 (s:TB)(p:Int)(t:Rd.St):Rd.St:=g5 s (Rd.tys s p.toNat t).2
def g3 (s:TB)(t:Rd.St):Rd.St:=g4 s (Rd.cn s 0 4 t).1 (Rd.cn s 0 4 t).2
def g2 (s:TB)(t:Rd.St):Rd.St:=g3 s (Rd.nx s t).2
def Bk9(s:TB)(t:Rd.St):(Rd.mth s t).2=g2 s (Rd.nx s t).2:=by
 simp only[Rd.mth,g2,g3,g4,g5,g6,g7,g8,g9,g10]
def Bjn{B:Int}(b:t.bad=true):(g10 D c B t).bad=true:=by
 obtain⟨p,rfl⟩:=Di t b;exact Bjf D c B p
def Bhb{B:Int}(b:t.bad=true):(g9 D c B t).bad=true:=by
 obtain⟨p,rfl⟩:=Di t b;exact Bjn (Bg5 D p)
def Bn6{B:Int}(b:t.bad=true):(g8 D c B t).bad=true:=by
 obtain⟨p,rfl⟩:=Di t b;exact Bhb (Bol D p)
def Bn7(b:t.bad=true):(g7 D c t).bad=true:=by
 obtain⟨p,rfl⟩:=Di t b;exact Bn6 (J4 D 0 8 p)
def Bn8(b:t.bad=true):(g6 D t).bad=true:=by
 obtain⟨p,rfl⟩:=Di t b;exact Bn7 (J4 D 0 8 p)
def Bn9(b:t.bad=true):(g5 D t).bad=true:=by
 obtain⟨p,rfl⟩:=Di t b;exact Bn8 (Bbw D p)
def Boa(b:t.bad=true):(g4 D c t).bad=true:=by
 obtain⟨q,rfl⟩:=Di t b;exact Bn9 (Nc D _ q)
def Bob(b:t.bad=true):(g3 D t).bad=true:=by
 obtain⟨p,rfl⟩:=Di t b;exact Boa (J4 D 0 4 p)
def Bul(b:t.bad=true):(g2 D t).bad=true:=by
 obtain⟨p,rfl⟩:=Di t b;exact Bob (Gl D p)
def hnds_le(s:TB)(i:Int):(hnds s i).2<=(s.length:Int):=by
 unfold hnds
 split
 ·simp only;omega
 split
 ·simp only;omega
 simp only;omega
def Bse(h0:0<=i)(h1:i<=(s.length:Int)):Lnk Mth.m s.length (Rd.mth s ⟨i.toNat,false⟩) (mth s i):=by
 -- where the document's reader has nothing, it is enough that the program's is bad
 have c:∀x:Mth×Int,x.2<0->(Rd.mth s ⟨i.toNat,false⟩).2.bad=true->Lnk Mth.m s.length (Rd.mth s ⟨i.toNat,false⟩) x:=fun x a b=>.inr ⟨.inl a,b⟩;rcases Rc h0 h1 with ⟨_,a1,a2,g⟩|⟨b0,h⟩
 rotate_left
 ·simp only at b0;refine c _ ?_ (Bul h);unfold mth;simp only;rw[Me Bd Bd,Sp Bd]
  decide
 simp only at a1 a2 g;rcases Rc (s:=s) (i:=i+1) Bd a1 with ⟨_,h,b2,l⟩|⟨c0,c1⟩
 rotate_left
 ·simp only at c0;refine c _ ?_ ?_
  ·unfold mth;simp only;rw[Me Bd Bd,Sp Bd]
   decide
  rw[Bk9,g];exact Bob c1
 simp only at h b2 l;rw[show i+1+1=i+2 by omega]at h l;rcases Rh (s:=s) (i:=i+2) (a:=0) (b:=4) Bd h Bd with ⟨c0,c1,F⟩|⟨G,e⟩
 rotate_left
 ·refine c _ ?_ ?_
  ·unfold mth;simp only;rw[Sp G]
   decide
  rw[Bk9,g];show (g3 s (Rd.nx s _).2).bad=true;rw[l];exact Boa e
 rw[show i+2+1=i+3 by omega]at F;have e2:(Rd.mth s ⟨i.toNat,false⟩).2=g4 s (cnt s (i+2) 0 4) ⟨(i+3).toNat,false⟩:=by
  rw[Bk9,g];show g3 s (Rd.nx s _).2=_;rw[l];show g4 s (Rd.cn s 0 4 _).1 (Rd.cn s 0 4 _).2=_;rw[F]
 have cb:=cnt_bd s (i+2) 0 4 Bd
 -- the parameters
 rcases Ax (s:=s) (i:=i+3) (cnt s (i+2) 0 4).toNat Bd Bd with ⟨_,e,d2,t⟩|⟨G,e⟩
 rotate_left
 ·simp only at G;refine c _ ?_ ?_
  ·unfold mth;simp only;rw[Pf Bd,Me (i:=i+3+2*cnt s (i+2) 0 4+2) Bd Bd,Sp Bd]
   decide
  rw[e2];exact Bn9 e
 simp only at e d2 t;rw[show i+3+2*(((cnt s (i+2) 0 4).toNat:Nat):Int)=i+3+2*cnt s (i+2) 0 4 by omega]at e t;have e3:(Rd.mth s ⟨i.toNat,false⟩).2=g5 s ⟨(i+3+2*cnt s (i+2) 0 4).toNat,false⟩:=by
  rw[e2];show g5 s (Rd.tys s _ _).2=_;rw[t]
 generalize f:i+3+2*cnt s (i+2) 0 4=j at *;have j0:0<=j:=Bd;rcases Bme (s:=s) (i:=j) j0 e with ⟨_,v,f2,I⟩|⟨f0,v⟩
 rotate_left
 ·simp only[ty]at f0;refine c _ ?_ ?_
  ·unfold mth;simp only;rw[Pf Bd,f,Me (i:=j+2) Bd Bd,Sp Bd]
   decide
  rw[e3];exact Bn8 v
 simp only[ty]at v f2 I;have J:(Rd.mth s ⟨i.toNat,false⟩).2=g6 s ⟨(j+2).toNat,false⟩:=by
  rw[e3];show g6 s (Rd.ty s _).2=_;rw[I]
 rcases Rh (s:=s) (i:=j+2) (a:=0) (b:=8) Bd v Bd with ⟨K,l1,z⟩|⟨K,l1⟩
 rotate_left
 ·refine c _ ?_ ?_
  ·unfold mth;simp only;rw[Pf Bd,f,Sp K]
   decide
  rw[J];exact Bn7 l1
 rw[show j+2+1=j+3 by omega]at z;rcases Rh (s:=s) (i:=j+3) (a:=0) (b:=8) Bd Bd Bd with ⟨k0,k1,N⟩|⟨k0,k1⟩
 rotate_left
 ·refine c _ ?_ ?_
  ·unfold mth;simp only;rw[Pf Bd,f,Pf Bd,Sp k0]
   decide
  rw[J];show (g7 s (Rd.cn s 0 8 _).1 (Rd.cn s 0 8 _).2).bad=true;rw[z];exact Bn6 k1
 rw[show j+3+1=j+4 by omega]at N;have C:(Rd.mth s ⟨i.toNat,false⟩).2=g8 s (cnt s (j+2) 0 8) (cnt s (j+3) 0 8) ⟨(j+4).toNat,false⟩:=by
  rw[J];show g7 s (Rd.cn s 0 8 _).1 (Rd.cn s 0 8 _).2=_;rw[z];show g8 s _ (Rd.cn s 0 8 _).1 (Rd.cn s 0 8 _).2=_;rw[N]
 rcases Rh (s:=s) (i:=j+4) (a:=1) (b:=120) Bd Bd Bd with ⟨n0,n1,O⟩|⟨n0,n1⟩
 rotate_left
 ·refine c _ ?_ ?_
  ·unfold mth;simp only;rw[Pf Bd,f,Pf Bd,Pf Bd,Sp n0]
   decide
  rw[C];refine Bhb ?_;unfold Rd.codes;obtain⟨q,hq⟩:=Di _ n1;simp only;rw[hq];exact Oo (Gl s) _ q
 rw[show j+4+1=j+5 by omega]at O;rcases Bq4 (s:=s) (i:=j+5) (cnt s (j+4) 1 120).toNat Bd Bd with ⟨_,p,o2,Q⟩|⟨o0,p⟩
 rotate_left
 ·simp only at o0;refine c _ ?_ ?_
  ·unfold mth;simp only;rw[Pf Bd,f,Pf Bd,Pf Bd,Pf Bd,Sp Bd]
   decide
  rw[C];refine Bhb ?_;unfold Rd.codes;simp only;rw[O];exact p
 simp only at p o2 Q;rw[show j+5+(((cnt s (j+4) 1 120).toNat:Nat):Int)=j+5+cnt s (j+4) 1 120 by omega]at p Q;have V:Rd.codes s ⟨(j+4).toNat,false⟩=(codeTo s (j+5) (cnt s (j+4) 1 120).toNat,⟨(j+5+cnt s (j+4) 1 120).toNat,false⟩):=by
  unfold Rd.codes;simp only;rw[O];exact Bxd o2 Q
 rcases Bqs (s:=s) (i:=j+5+cnt s (j+4) 1 120) Bd p with ⟨p0,Y,p2,p3⟩|⟨p0,Y⟩
 rotate_left
 ·have a0:=hnds_le s (j+5+cnt s (j+4) 1 120);refine c _ ?_ ?_
  ·unfold mth;simp only;rw[Pf Bd,f,Pf Bd,Pf Bd,Pf Bd,Pf Bd,Sp Bd]
   decide
  rw[C];show (g9 s _ _ (Rd.codes s _).2).bad=true;rw[V];exact Bjn Y
 have hm:=Bsf (s:=s) (L:=cnt s (j+2) 0 8) (H:=cnt s (j+3) 0 8) K p0 Y;have e6:(Rd.mth s ⟨i.toNat,false⟩).2=(Rd.mps s (cnt s (j+2) 0 8) (cnt s (j+3) 0 8) ⟨(hnds s (j+5+cnt s (j+4) 1 120)).2.toNat,false⟩).2:=by
  rw[C];show g9 s _ _ (Rd.codes s _).2=_;rw[V];show g10 s _ _ (Rd.hnds s _).2=_;simp only;rw[p3];rfl
 have hx:mth s i=(⟨⟨at' s i,at' s (i+1),tys s (i+3) (cnt s (i+2) 0 4).toNat,(at' s j,at' s (j+1)),cnt s (j+2) 0 8,cnt s (j+3) 0 8,codeTo s (j+5) (cnt s (j+4) 1 120).toNat,(hnds s (j+5+cnt s (j+4) 1 120)).1,(mps s (hnds s (j+5+cnt s (j+4) 1 120)).2 (cnt s (j+2) 0 8) (cnt s (j+3) 0 8)).1⟩,(hnds s (j+5+cnt s (j+4) 1 120)).2,(mps s (hnds s (j+5+cnt s (j+4) 1 120)).2 (cnt s (j+2) 0 8) (cnt s (j+3) 0 8)).2⟩,(mps s (hnds s (j+5+cnt s (j+4) 1 120)).2 (cnt s (j+2) 0 8) (cnt s (j+3) 0 8)).2):=by
  unfold mth;simp only;rw[Pf Bd,f,Pf Bd,Pf Bd,Pf Bd,Pf Bd,Pf Bd]
 rw[hx];rcases hm with ⟨Z,m1,m2,m3⟩|⟨Z,m1⟩
 ·left
  refine⟨Z,m1,?_,by rw[e6];exact m3⟩;have A:Rd.nx s ⟨i.toNat,false⟩=(at' s i,⟨(i+1).toNat,false⟩):=Bxd a2 g;have B:Rd.nx s ⟨(i+1).toNat,false⟩=(at' s (i+1),⟨(i+2).toNat,false⟩):=Bxd b2 l;have D:Rd.tys s (cnt s (i+2) 0 4).toNat ⟨(i+3).toNat,false⟩=(tys s (i+3) (cnt s (i+2) 0 4).toNat,⟨j.toNat,false⟩):=Bxd d2 t;have E:Rd.ty s ⟨j.toNat,false⟩=((at' s j,at' s (j+1)),⟨(j+2).toNat,false⟩):=Bxd f2 I;have P:Rd.hnds s ⟨(j+5+cnt s (j+4) 1 120).toNat,false⟩=((hnds s (j+5+cnt s (j+4) 1 120)).1,⟨(hnds s (j+5+cnt s (j+4) 1 120)).2.toNat,false⟩):=Bxd p2 p3;simp only[Rd.mth,A,B,F,D,E,z,N,V,P];simp only[id_eq]at m2;rw[m2]
 right
 exact⟨Z,by rw[e6];exact m1⟩
def Bsd(s:TB)(i:Int)(h:(s.length:Int)<i):(mth s i).2<0:=by
 unfold mth;simp only;rw[Me Bd Bd,Sp Bd]
 decide
def Buo(s:TB)(b:Int)(p:Nat):(Rd.ex s b ⟨p,true⟩).bad=true:=by
 unfold Rd.ex
 split
 ·exact Gl s p
 rfl
def Boi{b:Int}(c:0<=i)(f:i<=(s.length:Int))(g:0<=b):(at' s i=b/\i<(s.length:Int)/\Rd.ex s b ⟨i.toNat,false⟩=⟨(i+1).toNat,false⟩)\/(at' s i≠b/\(Rd.ex s b ⟨i.toNat,false⟩).bad=true):=by
 unfold Rd.ex;by_cases h:i<(s.length:Int)
 ·rw[Y9 c h];by_cases e:at' s i=b;·left;rw[Sp e];exact⟨e,h,rfl⟩
  right;rw[Pf e];exact⟨e,rfl⟩
 right
 rw[Xz Bd,at_out Bd];refine⟨Bd,?_⟩
 split<;>rfl
def fil_same(s:TB):((Rd.fil s ⟨0,false⟩).2.bad=false/\(Rd.fil s ⟨0,false⟩).2.pos=s.length<->(fil s).2.2=(s.length:Int))/\((fil s).2.2=(s.length:Int)->(Rd.fil s ⟨0,false⟩).1.classes=(fil s).1/\(Rd.fil s ⟨0,false⟩).1.methods=(fil s).2.1.map Mth.m):=by
 -- the stages of the program's reader
 have e:(Rd.fil s ⟨0,false⟩).2=(Rd.rep (Rd.mth s) (Rd.cn s 1 6 (Rd.rep (Rd.cls s) (Rd.cn s 0 6 (Rd.ex s 77 (Rd.ex s 83 ⟨0,false⟩))).1.toNat (Rd.cn s 0 6 (Rd.ex s 77 (Rd.ex s 83 ⟨0,false⟩))).2).2).1.toNat
   (Rd.cn s 1 6 (Rd.rep (Rd.cls s) (Rd.cn s 0 6 (Rd.ex s 77 (Rd.ex s 83 ⟨0,false⟩))).1.toNat (Rd.cn s 0 6 (Rd.ex s 77 (Rd.ex s 83 ⟨0,false⟩))).2).2).2).2:=by simp only[Rd.fil]
 have N:∀(k:Nat) (t:Rd.St),t.bad=true->(Rd.rep (Rd.mth s) k t).2.bad=true:=fun k t z=>by
  obtain⟨p,rfl⟩:=Di t z;exact Oo (Bje s) k p
 have B:∀(t:Rd.St),t.bad=true->(Rd.rep (Rd.mth s) (Rd.cn s 1 6 t).1.toNat (Rd.cn s 1 6 t).2).2.bad=true:=fun t z=>by
  obtain⟨p,rfl⟩:=Di t z;exact N _ _ (J4 s 1 6 p)
 have C:∀(k:Nat) (t:Rd.St),t.bad=true->(Rd.rep (Rd.cls s) k t).2.bad=true:=fun k t z=>by
  obtain⟨p,rfl⟩:=Di t z;exact Oo (Bjr s) k p
 have f:(Rd.fil s ⟨0,false⟩).2.bad=true->(fil s).2.2≠(s.length:Int) ->
   ((Rd.fil s ⟨0,false⟩).2.bad=false/\(Rd.fil s ⟨0,false⟩).2.pos=s.length<->(fil s).2.2=(s.length:Int)) /\
   ((fil s).2.2=(s.length:Int)->(Rd.fil s ⟨0,false⟩).1.classes=(fil s).1/\(Rd.fil s ⟨0,false⟩).1.methods=(fil s).2.1.map Mth.m):=by
  intro a b;refine⟨⟨fun h=>?_,fun h=>absurd h b⟩,fun h=>absurd h b⟩;rw[a]at h;exact absurd h.1 Fr
 rcases Boi (s:=s) (i:=0) (b:=83) Bd Bd Bd with ⟨O,Q,a3⟩|⟨O,Q⟩
 rotate_left
 ·refine f ?_ ?_
  ·rw[e];refine B _ (C _ _ ?_);have h1:(Rd.ex s 83 ⟨0,false⟩).bad=true:=Q;obtain⟨p,hp⟩:=Di _ h1;rw[hp];obtain⟨q,D⟩:=Di _ (Buo s 77 p);rw[D];exact J4 s 0 6 q
  unfold fil;rw[Sp O];simp only;omega
 have c:Rd.ex s 83 ⟨0,false⟩=⟨(0+1:Int).toNat,false⟩:=a3;rcases Boi (s:=s) (i:=0+1) (b:=77) Bd Bd Bd with ⟨j,V,l⟩|⟨j,V⟩
 rotate_left
 ·refine f ?_ ?_
  ·rw[e,c];refine B _ (C _ _ ?_);obtain⟨q,D⟩:=Di _ V;rw[D];exact J4 s 0 6 q
  unfold fil;rw[Pf Bd,Sp (show at' s 1≠77 from j)];simp only;omega
 rcases Rh (s:=s) (i:=0+1+1) (a:=0) (b:=6) Bd Bd Bd with ⟨F,Y,A⟩|⟨F,Y⟩
 rotate_left
 ·refine f ?_ ?_
  ·rw[e,c,l];exact B _ (C _ _ Y)
  unfold fil;rw[Pf Bd,Pf (show ¬at' s 1≠77 from fun h=>h j),Sp (show cnt s 2 0 6<0 from F)];simp only;omega
 have a7:0<=cnt s 2 0 6:=F;have hc:=Vk (g:=id) (fun i a b=>Bs5 (s:=s) a b) (Bjr s) (fun i G=>.inl (Bs4 s i G)) (cnt s 2 0 6).toNat 3 Bd Bd;rcases hc with ⟨Z,I,d2,J⟩|⟨Z,I⟩
 rotate_left
 ·refine f ?_ ?_
  ·rw[e,c,l,A];exact B _ I
  unfold fil;rw[Pf Bd,Pf (show ¬at' s 1≠77 from fun h=>h j),Pf (show ¬cnt s 2 0 6<0 by omega)];simp only
  split
  ·simp only;omega
  rw[Me Bd Bd,Sp Bd];simp only;omega
 have a5:(Rd.rep (Rd.cls s) (cnt s 2 0 6).toNat ⟨(3:Int).toNat,false⟩).1=(rep (cls s) (cnt s 2 0 6).toNat 3).1:=by simpa using d2
 rcases Rh (s:=s) (i:=(rep (cls s) (cnt s 2 0 6).toNat 3).2) (a:=1) (b:=6) Z I Bd with ⟨e0,e1,e2⟩|⟨e0,e1⟩
 rotate_left
 ·refine f ?_ ?_
  ·rw[e,c,l,A];show (Rd.rep (Rd.mth s) (Rd.cn s 1 6 (Rd.rep (Rd.cls s) (cnt s 2 0 6).toNat ⟨(3:Int).toNat,false⟩).2).1.toNat (Rd.cn s 1 6 (Rd.rep (Rd.cls s) (cnt s 2 0 6).toNat ⟨(3:Int).toNat,false⟩).2).2).2.bad=true;rw[J];exact N _ _ e1
  unfold fil;rw[Pf Bd,Pf (show ¬at' s 1≠77 from fun h=>h j),Pf (show ¬cnt s 2 0 6<0 by omega)];simp only;rw[Pf Bd,Sp e0];simp only;omega
 have hm:=Vk (g:=Mth.m) (fun i a b=>Bse (s:=s) a b) (Bje s) (fun i G=>.inl (Bsd s i G)) (cnt s (rep (cls s) (cnt s 2 0 6).toNat 3).2 1 6).toNat ((rep (cls s) (cnt s 2 0 6).toNat 3).2+1) Bd Bd;have a0:(Rd.fil s ⟨0,false⟩).2=(Rd.rep (Rd.mth s) (cnt s (rep (cls s) (cnt s 2 0 6).toNat 3).2 1 6).toNat ⟨((rep (cls s) (cnt s 2 0 6).toNat 3).2+1).toNat,false⟩).2:=by
  rw[e,c,l,A];show (Rd.rep (Rd.mth s) (Rd.cn s 1 6 (Rd.rep (Rd.cls s) (cnt s 2 0 6).toNat ⟨(3:Int).toNat,false⟩).2).1.toNat (Rd.cn s 1 6 (Rd.rep (Rd.cls s) (cnt s 2 0 6).toNat ⟨(3:Int).toNat,false⟩).2).2).2=_;rw[J,e2]
 have a6:∀v:List Mth×Int,rep (mth s) (cnt s (rep (cls s) (cnt s 2 0 6).toNat 3).2 1 6).toNat ((rep (cls s) (cnt s 2 0 6).toNat 3).2+1)=v->fil s=if v.2<0 then ([],[],-1) else ((rep (cls s) (cnt s 2 0 6).toNat 3).1,v.1,v.2):=by
  intro v a4;unfold fil;rw[Pf Bd,Pf (show ¬at' s 1≠77 from fun h=>h j),Pf (show ¬cnt s 2 0 6<0 by omega)];simp only;rw[Pf Bd,Pf Bd,a4]
 have K:=a6 _ rfl;generalize a4:rep (mth s) (cnt s (rep (cls s) (cnt s 2 0 6).toNat 3).2 1 6).toNat ((rep (cls s) (cnt s 2 0 6).toNat 3).2+1)=v at *;rcases hm with ⟨m0,m1,m2,m3⟩|⟨m0,m1⟩
 ·rw[Pf Bd]at K;rw[K,a0,m3];refine⟨⟨fun h=>?_,fun h=>?_⟩,fun _=>⟨?_,?_⟩⟩
  ·simp only at h ⊢;omega
  ·simp only at h ⊢;exact⟨trivial,Bd⟩
  ·have L:(Rd.fil s ⟨0,false⟩).1.classes=(Rd.rep (Rd.cls s) (Rd.cn s 0 6 (Rd.ex s 77 (Rd.ex s 83 ⟨0,false⟩))).1.toNat (Rd.cn s 0 6 (Rd.ex s 77 (Rd.ex s 83 ⟨0,false⟩))).2).1:=by simp only[Rd.fil]
   rw[L,c,l,A];exact a5
  have L:(Rd.fil s ⟨0,false⟩).1.methods=(Rd.rep (Rd.mth s) (Rd.cn s 1 6 (Rd.rep (Rd.cls s) (Rd.cn s 0 6 (Rd.ex s 77 (Rd.ex s 83 ⟨0,false⟩))).1.toNat (Rd.cn s 0 6 (Rd.ex s 77 (Rd.ex s 83 ⟨0,false⟩))).2).2).1.toNat
    (Rd.cn s 1 6 (Rd.rep (Rd.cls s) (Rd.cn s 0 6 (Rd.ex s 77 (Rd.ex s 83 ⟨0,false⟩))).1.toNat (Rd.cn s 0 6 (Rd.ex s 77 (Rd.ex s 83 ⟨0,false⟩))).2).2).2).1:=by simp only[Rd.fil]
  rw[L,c,l,A];show (Rd.rep (Rd.mth s) (Rd.cn s 1 6 (Rd.rep (Rd.cls s) (cnt s 2 0 6).toNat ⟨(3:Int).toNat,false⟩).2).1.toNat (Rd.cn s 1 6 (Rd.rep (Rd.cls s) (cnt s 2 0 6).toNat ⟨(3:Int).toNat,false⟩).2).2).1=_;rw[J,e2];exact m2
 refine f (by rw[a0];exact m1) ?_;rw[K]
 split
 ·simp only;omega
 simp only;omega
end Rf
def Kz (w:TW)(b:Nat)(v:TX)(l:List Rd.Hnd):Prop:=w.ownsRow b 164 4 v l.length (Et l)
def Kz.kp{u:Nat}{i:TX}{l:List Rd.Hnd}{w b:TW}(h:Kz w u i l)(c:Kp e u w b)(f:some 164≠e):Kz b u i l:=Cx h c f
def Kz.mono{u b':Nat}{i:TX}{l:List Rd.Hnd}{w:TW}(h:Kz w u i l)(c:b'<=u):Kz w b' i l:=D8 h c
def Ir (w:TW)(b:Nat)(v:TX)(l:List (Rd.Cls × Value)):Prop :=
 w.ownsRow b 225 2 v l.length (Kr l)/\∀p∈l,Dp w b p.2 p.1.fields
def Ir.kp{u:Nat}{i:TX}{J:List (Rd.Cls×Value)}{w b:TW}(h:Ir w u i J)(c:Kp e u w b)(f:some 225≠e)(g:some 31≠e):Ir b u i J :=
 ⟨Cx h.1 c f,fun p j=>(h.2 p j).kp c g⟩
def Ir.mono{u b':Nat}{i:TX}{J:List (Rd.Cls×Value)}{w:TW}(h:Ir w u i J)(c:b'<=u):Ir w b' i J:=⟨D8 h.1 c,fun p e=>(h.2 p e).mono c⟩
def Oi (w:TW)(b:Nat)(v:TX)(l:List (Rd.Mp × Value × Value)):Prop :=
 w.ownsRow b 168 3 v l.length (Mn l)/\∀p∈l,Dp w b p.2.1 p.1.locals/\Dp w b p.2.2 p.1.stack
def Oi.kp{u:Nat}{i:TX}{l:List (Rd.Mp×Value×Value)}{w b:TW}(h:Oi w u i l)(c:Kp e u w b)(j:some 168≠e)(f:some 31≠e):Oi b u i l :=
 ⟨Cx h.1 c j,fun p g=>⟨(h.2 p g).1.kp c f,(h.2 p g).2.kp c f⟩⟩
def Oi.mono{u b':Nat}{i:TX}{l:List (Rd.Mp×Value×Value)}{w:TW}(h:Oi w u i l)(c:b'<=u):Oi w b' i l:=⟨D8 h.1 c,fun p e=>⟨(h.2 p e).1.mono c,(h.2 p e).2.mono c⟩⟩
def Bo0 (w:TW)(b:Nat)(v:TX)(ms:List Rd.Mp):Prop:=∃l,l.map Prod.fst=ms/\Oi w b v l
structure Ms where
 params:Value
 code:ByteArray
 handlers:Value
 maps:Value
def Nr (x:Rf.Mth)(u:Ms):List Value :=
 [.int .i64 x.m.cl,.int .i64 x.m.name,u.params,.int .i64 x.m.result.1,.int .i64 x.m.result.2,.int .i64 x.m.locals,.int .i64 x.m.stack,.string u.code,u.handlers,u.maps,.int .i64 x.mapsAt,.int .i64 x.fin]
def Sx (w:TW)(b:Nat)(x:Rf.Mth)(u:Ms):Prop :=
 Dp w b u.params x.m.params/\u.code.data.toList.map (fun c=>(c.toNat:Int))=x.m.code/\Kz w b u.handlers x.m.handlers/\Bo0 w b u.maps x.m.maps
def Sx.kp{u:Nat}{x:Rf.Mth}{g:Ms}{w b:TW}(h:Sx w u x g)(i:Kp e u w b)(j:some 31≠e)(m:some 164≠e)(p:some 168≠e):Sx b u x g:=by
 obtain⟨a,c,d,l,q,f⟩:=h;exact⟨a.kp i j,c,d.kp i m,l,q,f.kp i p j⟩
def Sx.mono{u b':Nat}{x:Rf.Mth}{e:Ms}{w:TW}(h:Sx w u x e)(g:b'<=u):Sx w b' x e:=by
 obtain⟨a,c,d,l,i,f⟩:=h;exact⟨a.mono g,c,d.mono g,l,i,f.mono g⟩
def Rq (l:List (Rf.Mth × Ms)):List Value:=l.flatMap fun x=>Nr x.1 x.2
def Bfc(l:List (Rf.Mth×Ms))(x:Rf.Mth×Ms):Rq (l++[x])=Rq l++Nr x.1 x.2:=by simp[Rq]
def Mf (w:TW)(b:Nat)(v:TX)(l:List (Rf.Mth × Ms)):Prop :=
 w.ownsRow b 109 12 v l.length (Rq l)/\∀p∈l,Sx w b p.1 p.2
def Mf.kp{u:Nat}{i:TX}{l:List (Rf.Mth×Ms)}{w b:TW}(h:Mf w u i l)(c:Kp e u w b)(f:some 109≠e)(g:some 31≠e)(j:some 164≠e)(m:some 168≠e):Mf b u i l :=
 ⟨Cx h.1 c f,fun p q=>(h.2 p q).kp c g j m⟩
def Mf.mono{u b':Nat}{i:TX}{l:List (Rf.Mth×Ms)}{w:TW}(h:Mf w u i l)(c:b'<=u):Mf w b' i l:=⟨D8 h.1 c,fun p e=>(h.2 p e).mono c⟩
def Uv{s:ByteArray}{i:Nat}(h:i<s.size):Rf.at' s.data.toList (i:Int)=(s[i].toNat:Int):=by
 have b:i<s.data.toList.length:=by simpa using h
 have e:s.data.toList[i]?.getD 0=s[i]:=by rw[Ws b];rfl
 unfold Rf.at';rw[Pf Bd,Pf Bd,Bvn,e]
def Gy(s:ByteArray)(i:Int)(w:TW)(g:s.size<=maxLen):Calls prog 135 #[.string s,.i i] w fun e b=>e=.r (.i (Rf.at' s.data.toList i))/\w=b:=by
 have h:s.data.toList.length=s.size:=Fr;by_cases c:i<0
 ·have e:Rf.at' s.data.toList i = -1:=by unfold Rf.at';rw[Sp c]
  rw[e];go_in;go_wp2;go_ret;exact⟨rfl,rfl⟩
 by_cases j:(s.size:Int)<=i;·rw[Rf.at_out Bd];go_in;go_wp2;go_ret;exact⟨rfl,rfl⟩
 obtain⟨k,rfl⟩:=Bvk (show 0<=i by omega);have f:k<s.size:=Bd;rw[Uv f];go_in;go_wp2;go_ret;exact⟨Bja (Bdo _),rfl⟩
def Ej(s:ByteArray)(i b c:Int)(w:TW)(f:s.size<=maxLen):Calls prog 136 #[.string s,.i i,.i b,.i c] w fun e m=>e=.r (.i (Rf.cnt s.data.toList i b c))/\w=m:=by
 unfold Rf.cnt;generalize p:Rf.at' s.data.toList i=r;have g:=Bc p;by_cases h:r<b
 ·rw[Sp h];go_in;go_wp2_with (go_at_call 135;refine(Gy s i _ f).mono ?_;rw[Ba g];rintro e j ⟨rfl,rfl⟩)
  go_ret;exact⟨rfl,rfl⟩
 rw[Pf h];by_cases l:c<r
 ·rw[Sp l];go_in;go_wp2_with (go_at_call 135;refine(Gy s i _ f).mono ?_;rw[Ba g];rintro e j ⟨rfl,rfl⟩)
  go_ret;exact⟨rfl,rfl⟩
 rw[Pf l];go_in;go_wp2_with (go_at_call 135;refine(Gy s i _ f).mono ?_;rw[Ba g];rintro e j ⟨rfl,rfl⟩)
 go_ret;exact⟨rfl,rfl⟩
def Oy(s:TB)(i:Int)(n:Nat):(Rf.tys s i n).length=n:=by
 induction n with
 | zero=>rfl
 | succ k ih=>simp[Rf.tys,ih]
def Lj(s:ByteArray)(i n:Int)(w:TW)(g:s.size<=maxLen)(a0:0<=i)(a1:i<=1000000)(a2:0<=n)(a3:n<=255):Calls prog 198 #[.string s,.i i,.i n] w fun e h => ∃a c,e=.r (.s a n.toNat c)/\Dp h w.heap.size (.s a n.toNat c) (Rf.tys s.data.toList i n.toNat)/\Bl w h:=by
 obtain⟨t,z,A,B,C⟩:=Bv4 Tryz.infoType;go_in;go_wp2
 go_loopw [7,8] (fun v j wr=>∃k:Nat,(k:Int)<=n/\j=.i k/\wr.ownsRow w.heap.size 31 2 v k (Bu (Rf.tys s.data.toList i k))/\Bl w wr)
  (fun _ j _=>n.toNat-(intOf j).toNat)
 case atStart=>exact⟨0,Bd,rfl,Bvl _ _ _ _,Vm _ _⟩
 case round=>
  obtain⟨k,hk,rfl,b,f⟩:=hrel;have D:=f.size;by_cases a4:(k:Int)<n
  ·generalize F:Rf.tys s.data.toList i k=p at *;generalize l:Rf.at' s.data.toList (i+2*(k:Int))=x at *;generalize m:Rf.at' s.data.toList (i+2*(k:Int)+1)=y at *;have G:Hid (Rf.tys s.data.toList i (k+1)=p++[(x,y)]):=by unfold Hid;rw[Rf.tys,F,l,m]
   have I:=Bc l;have J:=Bc m;go_wp2_with fail;refine(Gy s (i+2*(k:Int)) _ g).mono ?_;rw[Ba I];rintro e K ⟨rfl,rfl⟩;go_wp2_with fail;refine(Gy s (i+2*(k:Int)+1) _ g).mono ?_;rw[Ba J];rintro e K ⟨rfl,rfl⟩;go_wp2_with (at_builtin;refine Bvw _ rfl _ _ 105 rfl w.heap.size 31 t _ 2 16 Bwq z A B C rfl Ck _ _ _ rfl (b.alloc _) ⟨wr.heap.size,0,none⟩ 1 1 [.i x,.i y] rfl rfl ?c1 ?c2 ?c3 ?c4 ?c5 ?_)
   case c1=>exact Dv _ _ _ _ rfl
   case c2=>intro u q;simp at q;rcases q with rfl|rfl<;>rfl
   case c3=>unfold maxLen;omega
   case c4=>omega
   case c5=>simp;omega
   intro L N O Q _;have V:N.ownsRow w.heap.size 31 2 L (k+1) (Bu (Rf.tys s.data.toList i (k+1))):=by
    rw[Ba G,Xd];exact O
   have Y:=(f.alloc D (O7 x y)).grown Q Fm (fun j Z=>(b.lt j Z).1);go_wp2;go_roundw
   case rel=>exact⟨k+1,Bd,Lt,V,Y⟩
   case measure=>simp[intOf];omega
  obtain rfl:k=n.toNat:=Bd;obtain⟨va,vc,rfl⟩:=Bg b;go_wp2;go_ret;refine⟨_,_,rfl,?_,f⟩;unfold Dp;rw[Oy];exact b
def Bb2(s:ByteArray)(i:Int)(w:TW)(b:s.size<=maxLen)(F:0<=i)(G:i<=100000):Calls prog 137 #[.string s,.i i] w fun e j => ∃x a n c,e=.r (.tuple #[.agg #[.i x,.s a n c],.i (Rf.cls s.data.toList i).2])/\(0<=(Rf.cls s.data.toList i).2->x=(Rf.cls s.data.toList i).1.above/\Dp j w.heap.size (.s a n c) (Rf.cls s.data.toList i).1.fields)/\Bl w j:=by
 unfold Rf.cls;generalize l:Rf.cnt s.data.toList (i+1) 0 4=r;have m:=Rf.cnt_bd s.data.toList (i+1) 0 4 Bd;rw[l]at m;obtain⟨I,g⟩:=m;have p:=Bc l;by_cases q:r<0;·rw[Sp q];go_in;go_wp2_with fail;refine(Ej s (i+1) 0 4 _ b).mono ?_;rw[Ba p];rintro e f ⟨rfl,rfl⟩;go_wp2_with fail;refine tb (.tuple #[.agg #[.i 0,.s none 0 0],.i (-1)]) (by simp[results,results137,go_sem]) ?_;exact⟨0,none,0,0,rfl,fun h=>absurd h Ck,QN _⟩
 rw[Pf q];generalize A:Rf.at' s.data.toList i=x;have B:=Bc A;go_in;go_wp2_with fail;refine(Ej s (i+1) 0 4 _ b).mono ?_;rw[Ba p];rintro e f ⟨rfl,rfl⟩;go_wp2_with fail;refine(Gy s i _ b).mono ?_;rw[Ba B];rintro e f ⟨rfl,rfl⟩;go_wp2_with fail;refine(Lj s (i+2) r _ b Bd Bd Bd Bd).mono ?_;rintro e f ⟨a,c,rfl,C,g⟩;have t:=(g.block w.heap.size Fr).trans (Bf w _);obtain⟨v,z⟩:=cl2 t;obtain⟨J,K⟩:=fr2 t;simp at v z;have D:Bl w f:=(QN _).trans (g.mono Fr);go_wp2_with fail;refine tb (.tuple #[.agg #[.i x,.s a r.toNat c],.i (i+2+2*r)]) (by simp[results,results137,go_sem,v,z]) ?_;refine⟨_,_,_,_,rfl,fun _=>⟨rfl,?_⟩,(D.setCell Fr _).setCell Fr _⟩;exact D8 (Bx3 (Bx3 C Fr _) Fr _) Fr
def Tryz.infoRMap:(prog.info? 168).map (fun i=>(i.zero,i.size,i.bytes))=some (some (.agg #[.i 0,.s none 0 0,.s none 0 0]),3,56):=Le
def Bbc{α:Type}{f:Int->α×Int}{k:Nat}(e:0<=(Rf.rep f k c).2)(h:(f (Rf.rep f k c).2).2<0)(m:Nat)(g:k<m):(Rf.rep f m c)=([],-1):=by
 have b:Rf.rep f (k+1) c=([],-1):=by
  unfold Rf.rep;rw[Pf Bd,Sp h]
 have:∀n,Rf.rep f (k+1+n) c=([],-1):=by
  intro n
  induction n with
  | zero=>exact b
  | succ j ih =>
   rw[show k+1+(j+1)=(k+1+j)+1 by omega];unfold Rf.rep;rw[ih,Sp Fr]
 obtain⟨n,rfl⟩:∃n,m=k+1+n:=⟨m-(k+1),Bd⟩;exact this n
def Bsg{L H:Int}(h:0<=(Rf.mp s L H i).2)(e:H<=8)(f:L<=8)(g:0<=L):(Rf.mp s L H i).2<=i+34/\i<=(Rf.mp s L H i).2:=by
 unfold Rf.mp at h ⊢
 split
 ·rename_i c;rw[Sp c]at h;simp at h
 rename_i c;by_cases b:-1<=H;·have:=Rf.cnt_bd s (i+1+2*L) 0 H b;simp only;omega
 exfalso
 unfold Rf.cnt at c;have:=Rf.at_bd s (i+1+2*L)
 split at c
 ·omega
 split at c<;>omega
def Bmv(s:ByteArray)(i L H:Int)(w:TW)(f:s.size<=maxLen)(d2:0<=i)(d3:i<=100000)(b8:0<=L)(d4:L<=8)(d5:0<=H)(d6:H<=8):Calls prog 200 #[.string s,.i i,.i L,.i H] w fun e w' => ∃a n c l,e=.r (.tuple #[.s a n c,.i (Rf.mps s.data.toList i L H).2])/\l.map Prod.fst=(Rf.mps s.data.toList i L H).1/\Oi w' w.heap.size (.s a n c) l/\Bl w w':=by
 obtain⟨i0,hi,b9,c0,c6⟩:=Bv4 Tryz.infoRMap;unfold Rf.mps;generalize Q:Rf.cnt s.data.toList i 0 64=r;have hb:=Rf.cnt_bd s.data.toList i 0 64 Bd;rw[Q]at hb;obtain⟨d7,G⟩:=hb;have HR:=Bc Q;clear Q;by_cases h0:r<0;·rw[Sp h0];go_in;go_wp2_with fail;refine(Ej s i 0 64 _ f).mono ?_;rw[Ba HR];rintro e A ⟨rfl,rfl⟩;go_wp2;go_ret2;exact⟨none,0,0,[],rfl,rfl,⟨Bvl _ _ _ _,Fr⟩,Vm _ _⟩
 rw[Pf h0];generalize g:Rf.rep (Rf.mp s.data.toList L H) r.toNat (i+1)=z;have HZ:=Bc g;clear g;go_in;go_wp2_with fail;refine(Ej s i 0 64 _ f).mono ?_;rw[Ba HR];rintro e A ⟨rfl,rfl⟩;go_wp2
 go_loopw [1,11,12] (fun p v j wr=>∃(k:Nat) (q:Int) (l:List (Rd.Mp×Value×Value)),(k:Int)<=r/\j=.i k/\p=.i q/\l.length=k/\0<=q/\q<=i+1+34*(k:Int)/\Hid (Rf.rep (Rf.mp s.data.toList L H) k (i+1)=(l.map Prod.fst,q)) /\
   Oi wr w.heap.size v l/\Bl w wr)
  (fun _ _ j _=>r.toNat-(intOf j).toNat)
 case atStart=>exact⟨0,_,[],Bd,rfl,rfl,rfl,Bd,Bd,rfl,⟨Bvl _ _ _ _,Fr⟩,Vm _ _⟩
 case round=>
  obtain⟨k,q,l,hk,rfl,rfl,I,a8,d8,J,K,B⟩:=hrel;have a9:=B.size;by_cases d9:(k:Int)<r
  ·generalize C:Rf.at' s.data.toList q=x;generalize t:Rf.cnt s.data.toList (q+1+2*L) 0 H=h;have b0:=Rf.cnt_bd s.data.toList (q+1+2*L) 0 H Bd;rw[t]at b0;obtain⟨f0,f1⟩:=b0;by_cases b1:h<0
   ·have g:z=([],-1):=by
     rw[<- Ba HZ];refine Bbc (k:=k) ?_ ?_ _ Bd
     ·rw[Ba J];exact a8
     rw[Ba J];unfold Rf.mp;rw[t,Sp b1]
     decide
    have D:=Bc g;have V:=Bc C;have Y:=Bc t;clear g C t I;go_wp2_with fail;refine(Gy s q _ f).mono ?_;rw[Ba V];rintro e A ⟨rfl,rfl⟩;go_wp2_with fail;refine(Ej s (q+1+2*L) 0 H _ f).mono ?_;rw[Ba Y];rintro e A ⟨rfl,rfl⟩;go_wp2;go_ret2;exact⟨none,0,0,[],by rw[Ba D];rfl,by rw[Ba D];rfl,⟨Bvl _ _ _ _,Fr⟩,B⟩
   generalize Z:Rf.tys s.data.toList (q+1) L.toNat=q2;generalize a0:Rf.tys s.data.toList (q+2+2*L) h.toNat=q4;have b2:Rf.mp s.data.toList L H q=(⟨x,q2,q4⟩,q+2+2*L+2*h):=by
    unfold Rf.mp;rw[t,Pf b1,C,Z,a0]
   have HE:Hid (Rf.rep (Rf.mp s.data.toList L H) (k+1) (i+1)=(l.map Prod.fst++[⟨x,q2,q4⟩],q+2+2*L+2*h)):=Rf.rep_step (Ba J) a8 b2 Bd;have V:=Bc C;have Y:=Bc t;have c7:=Bc Z;have c8:=Bc a0;have a3:=Bc I;clear C t Z a0 b2 I;go_wp2_with fail;refine(Gy s q _ f).mono ?_;rw[Ba V];rintro e A ⟨rfl,rfl⟩;go_wp2_with fail;refine(Ej s (q+1+2*L) 0 H _ f).mono ?_;rw[Ba Y];rintro e A ⟨rfl,rfl⟩;go_wp2_with fail;refine(Lj s (q+1) L _ f Bd Bd b8 Bd).mono ?_;rw[Ba c7];rintro e A ⟨a1,c1,rfl,b3,G⟩;have a4:=B.trans (G.mono a9);have b4:=a4.size;go_wp2_with fail;refine(Lj s (q+2+2*L) h _ f Bd Bd Bd Bd).mono ?_;rw[Ba c8];rintro e w2 ⟨a2,c2,rfl,b5,N⟩;have a5:=a4.trans (N.mono b4);have c9:=a5.size;have T1:=(b3.mono a9).kp (Kp.of_below (e:=none) N) Ck;have T2:=b5.mono b4;have a6:=(K.kp (Kp.of_below (e:=none) G) Ck Ck).kp (Kp.of_below (e:=none) N) Ck Ck;have b6:=Bc a6.2;have O:=a6.1;clear b3 b5 K a6 B a4 G N;go_wp2_with (at_builtin;refine Bvw _ rfl _ _ 107 rfl w.heap.size 168 i0 _ 3 56 underlying107 hi b9 c0 c6 rfl Ck _ _ _ rfl (O.alloc _) ⟨w2.heap.size,0,none⟩ 1 1 [.i x,.s a1 L.toNat c1,.s a2 h.toNat c2] rfl rfl ?c1 ?c2 ?c3 ?c4 ?c5 ?_)
   case c1=>exact Dv _ _ _ _ rfl
   case c2=>intro u hu;simp at hu;rcases hu with rfl|rfl|rfl<;>rfl
   case c3=>have:=Ba a3;unfold maxLen;omega
   case c4=>have:=Ba a3;omega
   case c5=>simp;omega
   intro v' w3 b7 a7 _;have d0:=(a5.alloc c9 (O9 x a1 L.toNat c1 a2 h.toNat c2)).grown a7 Fm (fun j hj=>(O.lt j hj).1);have F:=(Kp.alloc (e:=some 168) (b:=w.heap.size) _ _).trans (Kp.of_grown a7 (O.alloc _));have d1:Oi w3 w.heap.size v' (l++[(⟨x,q2,q4⟩,.s a1 L.toNat c1,.s a2 h.toNat c2)]):=by
    refine⟨?_,?_⟩
    ·rw[Xj,Up];exact b7
    intro p m;rw[Bwt]at m;rcases m with m|m
    ·exact⟨(Ba b6 p m).1.kp F Ck,(Ba b6 p m).2.kp F Ck⟩
    simp only[Bxa]at m;subst m;exact⟨T1.kp F Ck,T2.kp F Ck⟩
   clear a7 O b7 F T1 T2 a5;go_wp2;go_roundw
   case rel=>exact⟨k+1,_,_,Bd,Lt,rfl,by rw[Up,Ba a3];rfl,Bd,Bd,by unfold Hid;rw[Ba HE,Bvx];rfl,d1,d0⟩
   case measure=>simp[intOf];omega
  obtain rfl:k=r.toNat:=Bd;have g:z=(l.map Prod.fst,q):=by rw[<- Ba HZ];exact Ba J
  have D:=Bc g;clear g I;obtain⟨va,vc,rfl⟩:=Bg K.1;go_wp2;go_ret2;exact⟨_,_,_,by rw[Ba D];rfl,l,by rw[Ba D],K,B⟩
def Bbz{P:Program}{B:Array Oper}{o:Oper}{a:Act}{w:TW}{K:Act->TW->Prop}{Q:Exit->Act->TW->Prop}{E:Prop} (C:o.guard=none)(s x:Operand)(t:TypeId)(D:o.op=Op.call { callee:=Callee.builtin Builtin.append,args:=#[s,x],argTypes:=#[t,t] }) (h:Nat)(e:TypeId)(i:TypeInfo)(z:TX)(b p:Nat)(F:P.underlying t=some (.s e))(G:P.info? e=some i)(I:i.zero=some z)(J:i.size=b)(L:i.bytes=p)(N:z.cells.size=b)(O:0<b) (v:TX)(n:Nat)(q:TV)(V:a.eval s=v)(Y:w.ownsRow h e b v n q) (A:Addr)(m c:Nat)(f:TV)(Z:a.eval x=.s (some A) m c)(hn:f.length=m*b)(hc:∀j u,f[j]?=some u->w.cell? (A.add j)=some u)(a0:∀u∈f,u.oneCell'=true) (b1:n+m<=maxLen)(b2:(n+m)*p<=140737488355328)(b3:h<=w.heap.size) (hK:∀l g,g.ownsRow h e b l (n+m) (q++f)->w.grownBy g v.ownBlock->K (a.put o.dst l) g):if Region.wanted o (yielded B a.tmps)=true then Oper.wp P o a w K Q else E:=by
 have hw:Region.wanted o (yielded B a.tmps)=true:=by simp[Region.wanted,C]
 rw[Sp hw];obtain⟨l,g,a1,r1,r2,_⟩:=run_append_own (P:=P) w h t o.type e i z b p F G I J L N O v n q Y A m c f hn hc a0 b1 b2 b3;unfold Oper.wp;simp[execOp,D,resolve,invoke,builtin,V,Z,a1,Result.andThen];exact hK l g r1 r2
def Tryz.infoRHandler:(prog.info? 164).map (fun i=>(i.zero,i.size,i.bytes))=some (some (.agg #[.i 0,.i 0,.i 0,.i 0]),4,32):=Le
def Ben(s:TB)(i:Int)(n:Nat):(Rf.hndTo s i n).length=n:=by
 induction n with
 | zero=>rfl
 | succ k ih=>simp[Rf.hndTo,ih]
def Eg(n:Int)(b:-9223372036854775808<=n)(c:n<=9223372036854775807):IntKind.i64.wrap n=n:=by
 rw[Go.IntWalk.i64_left,Go.IntWalk.wrap64_in _ ⟨b,c⟩]
theorem Bd1(s:ByteArray)(i:Int)(w:World)(f:s.size<=maxLen)(a5:0<=i)(a6:i<=100000):Calls prog 199 #[.string s,.int .i64 i] w fun e m => ∃a n c,e=.returned (.tuple #[.slice a n c,.int .i64 (Rf.hnds s.data.toList i).2])/\Kz m w.heap.size (.slice a n c) (Rf.hnds s.data.toList i).1/\Below w.heap.size w m:=by
 obtain⟨D,F,G,I,J⟩:=Bv4 Tryz.infoRHandler;have K:s.data.toList.length=s.size:=Fr;unfold Rf.hnds;rw[K];generalize g:Rf.cnt s.data.toList i 0 4=r;have p:=Rf.cnt_bd s.data.toList i 0 4 Bd;rw[g]at p;obtain⟨a7,a8⟩:=p;have h:=Bc g;clear g;by_cases t:r<0;·rw[Sp t];go_in;go_wp2_with fail;refine(Ej s i 0 4 _ f).mono ?_;rw[Ba h];rintro e z ⟨rfl,rfl⟩;go_wp2;go_ret2;exact⟨none,0,0,rfl,Bvl _ _ _ _,Vm _ _⟩
 rw[Pf t];by_cases A:(s.size:Int)<i+1+4*r;·rw[Sp A];go_in;go_wp2_with fail;refine(Ej s i 0 4 _ f).mono ?_;rw[Ba h];rintro e z ⟨rfl,rfl⟩;go_wp2;go_ret2;exact⟨none,0,0,rfl,Bvl _ _ _ _,Vm _ _⟩
 rw[Pf A];unfold Kz;dsimp only;rw[Ben];have d0:decide (r<0)=false:=Fm;have d1:decide ((s.size:Int)<i+1+4*r)=false:=Fm;go_in;go_wp2_with fail;refine(Ej s i 0 4 _ f).mono ?_;rw[Ba h];rintro e z ⟨rfl,rfl⟩;go_wp2
 go_loopw [7,8] (fun v j wr=>∃k:Nat,(k:Int)<=r/\j=.int .i64 k/\wr.ownsRow w.heap.size 164 4 v k (Et (Rf.hndTo s.data.toList i k))/\Below w.heap.size w wr)
  (fun _ j _=>r.toNat-(intOf j).toNat)
 case atStart=>exact⟨0,Bd,rfl,Bvl _ _ _ _,Vm _ _⟩
 case round=>
  obtain⟨k,hk,rfl,b,l⟩:=hrel;have L:=l.size;by_cases a9:(k:Int)<r
  ·obtain⟨q,N⟩:=Bvk (show 0<=i+1+4*(k:Int) by omega);have O:q+3<s.size:=Bd;have Q:q+2<s.size:=Bd;have V:q+1<s.size:=Bd;have Y:q<s.size:=Bd;have z3:(q:Int)+3<(s.size:Int):=Bd;have z2:(q:Int)+2<(s.size:Int):=Bd;have z1:(q:Int)+1<(s.size:Int):=Bd;have Z:Hid (Et (Rf.hndTo s.data.toList i (k+1))=Et (Rf.hndTo s.data.toList i k)++[.int .i64 (s[q].toNat:Int),.int .i64 (s[q+1].toNat:Int),.int .i64 (s[q+2].toNat:Int),.int .i64 (s[q+3].toNat:Int)]):=by
    unfold Hid;rw[Rf.hndTo,Baw,N];unfold Rf.hndAt;have a1:Rf.at' s.data.toList ((q:Int)+1)=_:=Uv (i:=q+1) V;have a2:Rf.at' s.data.toList ((q:Int)+2)=_:=Uv (i:=q+2) Q;have a3:Rf.at' s.data.toList ((q:Int)+3)=_:=Uv (i:=q+3) O;rw[Uv Y,a1,a2,a3]
   have b0:IntKind.i64.wrap ((q:Int)+1)=(q:Int)+1:=Eg _ Bd Bd;have b1:IntKind.i64.wrap ((q:Int)+2)=(q:Int)+2:=Eg _ Bd Bd;have b2:IntKind.i64.wrap ((q:Int)+3)=(q:Int)+3:=Eg _ Bd Bd;have b3:∀c:UInt8,IntKind.i64.wrap (c.toNat:Int)=(c.toNat:Int):=fun c=>Eg _ Bd (by have:=c.toNat_lt;omega);have y1:0<=(q:Int)+1:=Bd;have y2:0<=(q:Int)+2:=Bd;have y3:0<=(q:Int)+3:=Bd;have e1:((q:Int)+1).toNat=q+1:=Bd;have e2:((q:Int)+2).toNat=q+2:=Bd;have e3:((q:Int)+3).toNat=q+3:=Bd;go_wp2
   go_region_held3 (fun _=>True) (exact trivial) ((refine Bbz Hd _ _ _ Hd w.heap.size 164 D _ 4 32 underlying106 F G I J rfl Bd _ _ _ Hd ((b.alloc _).drew) ⟨wr.heap.size,0,none⟩ 1 1 [.int .i64 (s[q].toNat:Int),.int .i64 (s[q+1].toNat:Int),.int .i64 (s[q+2].toNat:Int),.int .i64 (s[q+3].toNat:Int)] Hd Hd (Dv wr _ _ _ rfl) (by simp[Value.oneCell']) Mc Bd Fm ?_;intro v' w2 B C))
   all_goals
    have a0:w2.ownsRow w.heap.size 164 4 v' (k+1) (Et (Rf.hndTo s.data.toList i (k+1))):=by rw[Ba Z];exact B
    have a4:=((l.alloc L _).drew).grown C Fm (fun j hj=>(b.lt j hj).1);clear C B;go_wp2;go_roundw
    case rel=>exact⟨k+1,Bd,Lt,a0,a4⟩
    case measure=>simp[intOf];omega
  obtain rfl:k=r.toNat:=Bd;obtain⟨va,vc,rfl⟩:=Bg b;go_wp2;go_ret2;exact⟨_,_,_,rfl,b,l⟩
def Bpv(s:ByteArray)(i p:Int)(w:TW)(f:s.size<=maxLen)(a0:0<=i)(a1:i<=50000)(j:Hid (Rf.cnt s.data.toList (i+2) 0 4=p))(h:p<0):Calls prog 138 #[.string s,.i i] w fun e l => ∃b c m q t v z A B C D F G I J K L N,e=.r (.tuple #[.agg #[.i b,.i c,.s m q t,.i v,.i z,.i A,.i B,.string C,.s D F G,.s I J K,.i L,.i N],.i (-1)])/\Bl w l:=by
 have O:∃b c,Rf.at' s.data.toList i=b/\Rf.at' s.data.toList (i+1)=c:=⟨_,_,rfl,rfl⟩;obtain⟨b,c,Q,V⟩:=O;have Y:=Bc Q;have Z:=Bc V;go_in;go_wp2_with fail;refine(Gy s i _ f).mono ?_;rw[Ba Y];rintro e g ⟨rfl,rfl⟩;go_wp2_with fail;refine(Gy s (i+1) _ f).mono ?_;rw[Ba Z];rintro e g ⟨rfl,rfl⟩;go_wp2_with fail;refine(Ej s (i+2) 0 4 _ f).mono ?_;rw[Ba j];rintro e g ⟨rfl,rfl⟩;go_wp2_with fail;refine tb (.tuple #[.agg #[.i b,.i c,.s none 0 0,.i 0,.i 0,.i 0,.i 0,.string ⟨#[]⟩,.s none 0 0,.s none 0 0,.i 0,.i 0],.i (-1)]) (by simp[results,By8,go_sem]) ?_;exact⟨b,c,_,_,_,_,_,_,_,_,_,_,_,_,_,_,_,_,rfl,(QN _).alloc Fr _⟩
def Yp(s:ByteArray)(i p l h n:Int)(w:TW)(b:s.size<=maxLen)(c6:0<=i)(c7:i<=50000)(HP:Hid (Rf.cnt s.data.toList (i+2) 0 4=p))(HL:Hid (Rf.cnt s.data.toList (i+3+2*p+2) 0 8=l))(HH:Hid (Rf.cnt s.data.toList (i+3+2*p+3) 0 8=h))(HN:Hid (Rf.cnt s.data.toList (i+3+2*p+4) 1 120=n))(d0:0<=p)(d1:p<=4)(g:l<0\/(0<=l/\h<0)\/(0<=l/\0<=h/\n<0)\/(0<=l/\0<=h/\0<=n/\n<=120/\(s.size:Int)<i+3+2*p+5+n)):Calls prog 138 #[.string s,.i i] w fun e w' => ∃j m c n2 f x3 x4 x5 x6 sb a8 n8 c8 a9 n9 c9 a4 a5,e=.r (.tuple #[.agg #[.i j,.i m,.s c n2 f,.i x3,.i x4,.i x5,.i x6,.string sb,.s a8 n8 c8,.s a9 n9 c9,.i a4,.i a5],.i (-1)])/\Bl w w':=by
 have G1:∃j m F z A,Rf.at' s.data.toList i=j/\Rf.at' s.data.toList (i+1)=m/\Rf.tys s.data.toList (i+3) p.toNat=F/\Rf.at' s.data.toList (i+3+2*p)=z/\Rf.at' s.data.toList (i+3+2*p+1)=A:=⟨_,_,_,_,_,rfl,rfl,rfl,rfl,rfl⟩;obtain⟨j,m,F,z,A,a6,a7,b0,b3,b4⟩:=G1;have b5:=Bc a6;have b6:=Bc a7;have b7:=Bc b0;have b8:=Bc b3;have b9:=Bc b4;go_in;go_wp2_with fail;refine(Gy s i _ b).mono ?_;rw[Ba b5];rintro e q ⟨rfl,rfl⟩;go_wp2_with fail;refine(Gy s (i+1) _ b).mono ?_;rw[Ba b6];rintro e q ⟨rfl,rfl⟩;go_wp2_with fail;refine(Ej s (i+2) 0 4 _ b).mono ?_;rw[Ba HP];rintro e q ⟨rfl,rfl⟩;go_wp2_with fail;refine(Lj s (i+3) p _ b Bd Bd Bd Bd).mono ?_;rw[Ba b7];rintro e w1 ⟨c,f,rfl,T1,B⟩;have t:=stay B (Bv w _ _);have C1:=stay B (Cb w _ _);have G:=(Bx w _ _).trans (B.mono Fm);have s1:=G.size;have C:=Bb t 2;have f2:=Bj t 2;simp at C;go_wp2_with fail;refine(Lj s (i+3+2*p) 1 _ b Bd Bd Bd Bd).mono ?_;rintro e w2 ⟨ar,cr,rfl,TR,v⟩;have D:=stay v (Bq (i:=2) t (.s c p.toNat f));have I:=stay v (D7 C1 (p:=.a (w.heap.size+1) 2) Fr (.s c p.toNat f));simp at D;have J:=(G.setCell (p:=.a (w.heap.size+1) 2) Fr (.s c p.toNat f)).trans (v.mono Fm);have T2:=((T1.mono (b':=w.heap.size) Fm).kp (Kp.set (i:=2) t (.s c p.toNat f)) Ck).kp (Kp.of_below (e:=none) v) Ck;have s2:=J.size;obtain⟨gr,c0,d2,c1,K⟩:=Cf TR (by rw[Oy];decide);have L:=K 0 (by simp[Bu,Rf.tys]);have N:=K 1 (by simp[Bu,Rf.tys]);simp[Bu,Rf.tys]at L N;rw[Ba b8]at L;rw[Ba b9]at N;have d3:gr≠w.heap.size+1:=by
  have hh:=Pk t;simp at c1;omega
 subst c0;obtain⟨k0,k1,C,k3,k4,k5,k6,k7,k8,k9,c3,c4⟩:=Ia D;obtain⟨f0,f1,f2,f3,f4,f5,f6,f7,f8,f9,d4,d5⟩:=U8 D;obtain⟨O,Q,V,Y,Z,z5,z6,z7,z8,z9,a0,a1⟩:=Ia I;obtain⟨g0,g1,g2,g3,g4,g5,g6,g7,g8,g9,g10,d6⟩:=U8 I;simp at k0 k1 C k3 k4 k5 k6 k7 k8 k9 c3 c4 O Q V Y Z z5 z6 z7 z8 z9 a0 a1;go_wp2_with fail;refine(Ej s (i+3+2*p+2) 0 8 _ b).mono ?_;rw[Ba HL];rintro e q ⟨rfl,rfl⟩;go_wp2_with fail;refine(Ej s (i+3+2*p+3) 0 8 _ b).mono ?_;rw[Ba HH];rintro e q ⟨rfl,rfl⟩;go_wp2_with fail;refine(Ej s (i+3+2*p+4) 1 120 _ b).mono ?_;rw[Ba HN];rintro e q ⟨rfl,rfl⟩;rcases g with g|⟨a3,g⟩|⟨a3,c5,g⟩|⟨a3,c5,d7,d8,g⟩
 all_goals
  go_wp2_with fail;refine tb (.tuple #[.agg #[.i j,.i m,.s c p.toNat f,.i z,.i A,.i l,.i h,.string ⟨#[]⟩,.s none 0 0,.s none 0 0,.i 0,.i 0],.i (-1)]) (by simp[results,By8,go_sem,O,Q,V,Y,Z,z5,z6,z7,z8,z9,a0,a1]) ?_;exact⟨_,_,_,_,_,_,_,_,_,_,_,_,_,_,_,_,_,_,rfl,by repeat (first|refine Bvq ?_ Fr _|exact J)⟩
def Bpu(s:ByteArray)(i p l h:Int)(j n:Nat)(hq:List Rd.Hnd×Int)(w:TW)(b:s.size<=maxLen)(d2:0<=i)(d3:i<=50000)(HP:Hid (Rf.cnt s.data.toList (i+2) 0 4=p))(hj:i+3+2*p=(j:Int))(HL:Hid (Rf.cnt s.data.toList ((j:Int)+2) 0 8=l))(HH:Hid (Rf.cnt s.data.toList ((j:Int)+3) 0 8=h))(HN:Hid (Rf.cnt s.data.toList ((j:Int)+4) 1 120=(n:Int)))(d4:0<=p)(d5:p<=4)(d6:0<=l)(d7:l<=8)(d8:0<=h)(d9:h<=8)(h0:n<=120)(h1:j+5+n<=s.size)(HQ:Hid (Rf.hnds s.data.toList ((j:Int)+5+(n:Int))=hq))(h2:hq.2<0):Calls prog 138 #[.string s,.i i] w fun e w' => ∃m q f n2 g x3 x4 x5 x6 sb a8 n8 c8 a9 n9 c9 a7 b0,e=.r (.tuple #[.agg #[.i m,.i q,.s f n2 g,.i x3,.i x4,.i x5,.i x6,.string sb,.s a8 n8 c8,.s a9 n9 c9,.i a7,.i b0],.i (-1)])/\Bl w w':=by
 have G1:∃m q ps Y Z,Rf.at' s.data.toList i=m/\Rf.at' s.data.toList (i+1)=q/\Rf.tys s.data.toList (i+3) p.toNat=ps/\Rf.at' s.data.toList (j:Int)=Y/\Rf.at' s.data.toList ((j:Int)+1)=Z:=⟨_,_,_,_,_,rfl,rfl,rfl,rfl,rfl⟩;obtain⟨m,q,ps,Y,Z,b4,b5,b6,b7,b8⟩:=G1;have b9:=Bc b4;have c0:=Bc b5;have c1:=Bc b6;have c3:=Bc b7;have c4:=Bc b8;go_in;go_wp2_with fail;refine(Gy s i _ b).mono ?_;rw[Ba b9];rintro e t ⟨rfl,rfl⟩;go_wp2_with fail;refine(Gy s (i+1) _ b).mono ?_;rw[Ba c0];rintro e t ⟨rfl,rfl⟩;go_wp2_with fail;refine(Ej s (i+2) 0 4 _ b).mono ?_;rw[Ba HP];rintro e t ⟨rfl,rfl⟩;go_wp2_with fail;refine(Lj s (i+3) p _ b Bd Bd Bd Bd).mono ?_;rw[Ba c1];rintro e w1 ⟨f,g,rfl,T1,b1⟩;have v:=stay b1 (Bv w _ _);have C1:=stay b1 (Cb w _ _);have a3:=(Bx w _ _).trans (b1.mono Fm);have s1:=a3.size;have z:=Bb v 2;have f2:=Bj v 2;simp at z;go_wp2_with fail;refine(Lj s (j:Int) 1 _ b Bd Bd Bd Bd).mono ?_;rintro e w2 ⟨ar,cr,rfl,TR,A⟩;have c:=stay A (Bq (i:=2) v (.s f p.toNat g));have C2:=stay A (D7 C1 (p:=.a (w.heap.size+1) 2) Fr (.s f p.toNat g));simp at c;have a4:=(a3.setCell (p:=.a (w.heap.size+1) 2) Fr (.s f p.toNat g)).trans (A.mono Fm);have T2:=((T1.mono (b':=w.heap.size) Fm).kp (Kp.set (i:=2) v (.s f p.toNat g)) Ck).kp (Kp.of_below (e:=none) A) Ck;have s2:=a4.size;obtain⟨gr,c5,h3,c6,a5⟩:=Cf TR (by rw[Oy];decide);have r0:=a5 0 (by simp[Bu,Rf.tys]);have r1:=a5 1 (by simp[Bu,Rf.tys]);simp[Bu,Rf.tys]at r0 r1;rw[Ba c3]at r0;rw[Ba c4]at r1;have h4:gr≠w.heap.size+1:=by
  have hh:=Pk v;simp at c6;omega
 subst c5;obtain⟨k0,k1,z,k3,k4,k5,k6,k7,k8,k9,a0,a1⟩:=Ia c;obtain⟨f0,f1,f2,f3,f4,f5,f6,f7,f8,f9,c7,d0⟩:=U8 c;obtain⟨B,C,D,F,G,I,J,K,L,N,O,Q⟩:=Ia C2;obtain⟨g0,g1,g2,g3,g4,g5,g6,g7,g8,g9,g10,d1⟩:=U8 C2;simp at k0 k1 z k3 k4 k5 k6 k7 k8 k9 a0 a1 B C D F G I J K L N O Q;go_wp2_with fail;refine(Ej s ((j:Int)+2) 0 8 _ b).mono ?_;rw[Ba HL];rintro e t ⟨rfl,rfl⟩;go_wp2_with fail;refine(Ej s ((j:Int)+3) 0 8 _ b).mono ?_;rw[Ba HH];rintro e t ⟨rfl,rfl⟩;go_wp2_with fail;refine(Ej s ((j:Int)+4) 1 120 _ b).mono ?_;rw[Ba HN];rintro e t ⟨rfl,rfl⟩;have h5:j+5<=s.size:=Bd;have h6:(j:Int)+5+(n:Int)<=(s.size:Int):=Bd;go_wp2_with fail;refine(Bd1 s ((j:Int)+5+(n:Int)) _ b Bd Bd).mono ?_;rw[Ba HQ];rintro e w3 ⟨a8,n8,c8,rfl,T8,V⟩;have B3:=stay V (Bq (i:=7) (Bq (i:=6) (Bq (i:=5) (Bq (i:=4) (Bq (i:=3) c _) _) _) _) _);have C3:=stay V (D7 (D7 (D7 (D7 (D7 C2 (p:=.a (w.heap.size+1) 3) Fr _) (p:=.a (w.heap.size+1) 4) Fr _) (p:=.a (w.heap.size+1) 5) Fr _) (p:=.a (w.heap.size+1) 6) Fr _) (p:=.a (w.heap.size+1) 7) Fr _);simp at B3;have a6:=(((((a4.setCell (p:=.a (w.heap.size+1) 3) Fr _).setCell (p:=.a (w.heap.size+1) 4) Fr _).setCell (p:=.a (w.heap.size+1) 5) Fr _).setCell (p:=.a (w.heap.size+1) 6) Fr _).setCell (p:=.a (w.heap.size+1) 7) Fr _).trans (V.mono Fm);have T3:=(T2.kp (((((Kp.set (i:=3) c _).trans (Kp.set (i:=4) (Bq (i:=3) c _) _)).trans (Kp.set (i:=5) (Bq (i:=4) (Bq (i:=3) c _) _) _)).trans (Kp.set (i:=6) (Bq (i:=5) (Bq (i:=4) (Bq (i:=3) c _) _) _) _)).trans (Kp.set (i:=7) (Bq (i:=6) (Bq (i:=5) (Bq (i:=4) (Bq (i:=3) c _) _) _) _) _)) Ck).kp (Kp.of_below (e:=none) V) Ck;have s3:=a6.size;have h7:=T8.mono (b':=w.heap.size) Fm;obtain⟨k0,k1,z,k3,k4,k5,k6,k7,k8,k9,a0,a1⟩:=Ia B3;obtain⟨f0,f1,f2,f3,f4,f5,f6,f7,f8,f9,c7,d0⟩:=U8 B3;obtain⟨B,C,D,F,G,I,J,K,L,N,O,Q⟩:=Ia C3;obtain⟨g0,g1,g2,g3,g4,g5,g6,g7,g8,g9,g10,d1⟩:=U8 C3;simp at k0 k1 z k3 k4 k5 k6 k7 k8 k9 a0 a1 B C D F G I J K L N O Q;go_wp2_with fail;refine tb (.tuple #[.agg #[.i m,.i q,.s f p.toNat g,.i Y,.i Z,.i l,.i h,.string (s.extract (j+5) (j+5+n)),.s none 0 0,.s none 0 0,.i 0,.i 0],.i (-1)]) (by simp[results,By8,go_sem,B,C,D,F,G,I,J,K,L,N,O,Q]) ?_;exact⟨_,_,_,_,_,_,_,_,_,_,_,_,_,_,_,_,_,_,rfl,by repeat (first|refine Bvq ?_ Fr _|exact a6)⟩
def Bq2(s:ByteArray)(a b:Nat)(e:a<=b)(c:b<s.size):(s.extract a (b+1)).data.toList=(s.extract a b).data.toList++[s[b]]:=by
 rw[B0j,B0j,B0v,B0v,Bz1,Bz1];rw[show b+1-a=(b-a)+1 by omega,Bvs (by simp;have:s.data.size=s.size:=rfl;omega)]
 congr 1
 simp;rw[show (s[b]:UInt8)=s.data[b]'c from rfl]
 congr 1
 omega
def Bhm(s:ByteArray)(j n:Nat)(h:j+5+n<=s.size):(s.extract (j+5) (j+5+n)).data.toList.map (fun c=>(c.toNat:Int))=Rf.codeTo s.data.toList ((j:Int)+5) n:=by
 induction n with
 | zero=>simp[Rf.codeTo]
 | succ k ih =>
  have e:(s.extract (j+5) (j+5+(k+1))).data.toList=(s.extract (j+5) (j+5+k)).data.toList++[s[j+5+k]'Bd]:=by
   exact Bq2 s (j+5) (j+5+k) Bd Bd
  rw[e,Bvx,ih Bd,Rf.codeTo];have a:Rf.at' s.data.toList ((j:Int)+5+(k:Int))=_:=Uv (i:=j+5+k) Bd;rw[a];rfl
def Bpt(s:ByteArray)(i p l h G I J K:Int)(ps:TP)(j n:Nat)(c:List Rd.Hnd×Int)(f:List Rd.Mp×Int)(w:TW)(g:s.size<=maxLen)(i1:0<=i)(i2:i<=50000)(HP:Hid (Rf.cnt s.data.toList (i+2) 0 4=p))(hj:i+3+2*p=(j:Int))(HL:Hid (Rf.cnt s.data.toList ((j:Int)+2) 0 8=l))(HH:Hid (Rf.cnt s.data.toList ((j:Int)+3) 0 8=h))(HN:Hid (Rf.cnt s.data.toList ((j:Int)+4) 1 120=(n:Int)))(i3:0<=p)(i4:p<=4)(c5:0<=l)(c6:l<=8)(c7:0<=h)(d0:h<=8)(i5:n<=120)(d1:j+5+n<=s.size)(HQ:Hid (Rf.hnds s.data.toList ((j:Int)+5+(n:Int))=c))(d2:0<=c.2)(i6:c.2<=100000)(HM:Hid (Rf.mps s.data.toList c.2 l h=f)) (d3:Hid (Rf.at' s.data.toList i=G))(d4:Hid (Rf.at' s.data.toList (i+1)=I))(d5:Hid (Rf.tys s.data.toList (i+3) p.toNat=ps))(d6:Hid (Rf.at' s.data.toList (j:Int)=J))(d7:Hid (Rf.at' s.data.toList ((j:Int)+1)=K)):Calls prog 138 #[.string s,.i i] w fun e w' => ∃m n2 q sb t v z A B C,e=.r (.tuple #[.agg #[.i G,.i I,.s m n2 q,.i J,.i K,.i l,.i h,.string sb,.s t v z,.s A B C,.i c.2,.i f.2],.i f.2])/\Sx w' w.heap.size ⟨⟨G,I,ps,(J,K),l,h,Rf.codeTo s.data.toList ((j:Int)+5) n,c.1,f.1⟩,c.2,f.2⟩ ⟨.s m n2 q,sb,.s t v z,.s A B C⟩/\Bl w w':=by
 go_in;go_wp2_with fail;refine(Gy s i _ g).mono ?_;rw[Ba d3];rintro e w0 ⟨rfl,rfl⟩;go_wp2_with fail;refine(Gy s (i+1) _ g).mono ?_;rw[Ba d4];rintro e w0 ⟨rfl,rfl⟩;go_wp2_with fail;refine(Ej s (i+2) 0 4 _ g).mono ?_;rw[Ba HP];rintro e w0 ⟨rfl,rfl⟩;go_wp2_with fail;refine(Lj s (i+3) p _ g Bd Bd Bd Bd).mono ?_;rw[Ba d5];rintro e w1 ⟨m,q,rfl,T1,b1⟩;have B1:=stay b1 (Bv w _ _);have C1:=stay b1 (Cb w _ _);have a6:=(Bx w _ _).trans (b1.mono Fm);have s1:=a6.size;have F:=Bb B1 2;have f2:=Bj B1 2;simp at F;go_wp2_with fail;refine(Lj s (j:Int) 1 _ g Bd Bd Bd Bd).mono ?_;rintro e w2 ⟨ar,cr,rfl,TR,b2⟩;have D:=stay b2 (Bq (i:=2) B1 (.s m p.toNat q));have C2:=stay b2 (D7 C1 (p:=.a (w.heap.size+1) 2) Fr (.s m p.toNat q));simp at D;have a7:=(a6.setCell (p:=.a (w.heap.size+1) 2) Fr (.s m p.toNat q)).trans (b2.mono Fm);have T2:=((T1.mono (b':=w.heap.size) Fm).kp (Kp.set (i:=2) B1 (.s m p.toNat q)) Ck).kp (Kp.of_below (e:=none) b2) Ck;have s2:=a7.size;obtain⟨gr,d8,i7,d9,b0⟩:=Cf TR (by rw[Oy];decide);have r0:=b0 0 (by simp[Bu,Rf.tys]);have r1:=b0 1 (by simp[Bu,Rf.tys]);simp[Bu,Rf.tys]at r0 r1;rw[Ba d6]at r0;rw[Ba d7]at r1;have i8:gr≠w.heap.size+1:=by
  have hh:=Pk B1;simp at d9;omega
 subst d8;obtain⟨k0,k1,F,k3,k4,k5,k6,k7,k8,k9,a3,a4⟩:=Ia D;obtain⟨f0,f1,f2,f3,f4,f5,f6,f7,f8,f9,b5,b6⟩:=U8 D;obtain⟨L,N,O,Q,V,Y,Z,z7,z8,z9,a0,a1⟩:=Ia C2;obtain⟨g0,g1,g2,g3,g4,g5,g6,g7,g8,g9,g10,b7⟩:=U8 C2;simp at k0 k1 F k3 k4 k5 k6 k7 k8 k9 a3 a4 L N O Q V Y Z z7 z8 z9 a0 a1;go_wp2_with fail;refine(Ej s ((j:Int)+2) 0 8 _ g).mono ?_;rw[Ba HL];rintro e w0 ⟨rfl,rfl⟩;go_wp2_with fail;refine(Ej s ((j:Int)+3) 0 8 _ g).mono ?_;rw[Ba HH];rintro e w0 ⟨rfl,rfl⟩;go_wp2_with fail;refine(Ej s ((j:Int)+4) 1 120 _ g).mono ?_;rw[Ba HN];rintro e w0 ⟨rfl,rfl⟩;have i9:j+5<=s.size:=Bd;have j0:(j:Int)+5+(n:Int)<=(s.size:Int):=Bd;go_wp2_with fail;refine(Bd1 s ((j:Int)+5+(n:Int)) _ g Bd Bd).mono ?_;rw[Ba HQ];rintro e w3 ⟨t,v,z,rfl,T8,b3⟩;have B3:=stay b3 (Bq (i:=7) (Bq (i:=6) (Bq (i:=5) (Bq (i:=4) (Bq (i:=3) D _) _) _) _) _);have C3:=stay b3 (D7 (D7 (D7 (D7 (D7 C2 (p:=.a (w.heap.size+1) 3) Fr _) (p:=.a (w.heap.size+1) 4) Fr _) (p:=.a (w.heap.size+1) 5) Fr _) (p:=.a (w.heap.size+1) 6) Fr _) (p:=.a (w.heap.size+1) 7) Fr _);simp at B3;have b8:=(((((a7.setCell (p:=.a (w.heap.size+1) 3) Fr _).setCell (p:=.a (w.heap.size+1) 4) Fr _).setCell (p:=.a (w.heap.size+1) 5) Fr _).setCell (p:=.a (w.heap.size+1) 6) Fr _).setCell (p:=.a (w.heap.size+1) 7) Fr _).trans (b3.mono Fm);have T3:=(T2.kp (((((Kp.set (i:=3) D _).trans (Kp.set (i:=4) (Bq (i:=3) D _) _)).trans (Kp.set (i:=5) (Bq (i:=4) (Bq (i:=3) D _) _) _)).trans (Kp.set (i:=6) (Bq (i:=5) (Bq (i:=4) (Bq (i:=3) D _) _) _) _)).trans (Kp.set (i:=7) (Bq (i:=6) (Bq (i:=5) (Bq (i:=4) (Bq (i:=3) D _) _) _) _) _)) Ck).kp (Kp.of_below (e:=none) b3) Ck;have s3:=b8.size;have h0:=T8.mono (b':=w.heap.size) Fm;obtain⟨k0,k1,F,k3,k4,k5,k6,k7,k8,k9,a3,a4⟩:=Ia B3;obtain⟨f0,f1,f2,f3,f4,f5,f6,f7,f8,f9,b5,b6⟩:=U8 B3;obtain⟨L,N,O,Q,V,Y,Z,z7,z8,z9,a0,a1⟩:=Ia C3;obtain⟨g0,g1,g2,g3,g4,g5,g6,g7,g8,g9,g10,b7⟩:=U8 C3;simp at k0 k1 F k3 k4 k5 k6 k7 k8 k9 a3 a4 L N O Q V Y Z z7 z8 z9 a0 a1;go_wp2_with fail;refine(Bmv s c.2 l h _ g d2 Bd c5 c6 c7 d0).mono ?_;rw[Ba HM];rintro e w4 ⟨A,B,C,ml,rfl,h1,T9,b4⟩;have B4:=stay b4 B3;have C4:=stay b4 C3;have h2:=b8.trans (b4.mono s3);have T4:=T3.kp (Kp.of_below (e:=none) b4) Ck;have h3:=h0.kp (Kp.of_below (e:=none) b4) Ck;have h4:=T9.mono (b':=w.heap.size) s3;have h5:=Bc h1;obtain⟨k0,k1,F,k3,k4,k5,k6,k7,k8,k9,a3,a4⟩:=Ia B4;obtain⟨f0,f1,f2,f3,f4,f5,f6,f7,f8,f9,b5,b6⟩:=U8 B4;obtain⟨L,N,O,Q,V,Y,Z,z7,z8,z9,a0,a1⟩:=Ia C4;obtain⟨g0,g1,g2,g3,g4,g5,g6,g7,g8,g9,g10,b7⟩:=U8 C4;simp at k0 k1 F k3 k4 k5 k6 k7 k8 k9 a3 a4 L N O Q V Y Z z7 z8 z9 a0 a1;go_wp2_with fail;refine tb (.tuple #[.agg #[.i G,.i I,.s m p.toNat q,.i J,.i K,.i l,.i h,.string (s.extract (j+5) (j+5+n)),.s t v z,.s A B C,.i c.2,.i f.2],.i f.2]) (by simp[results,By8,go_sem,L,N,O,Q,V,Y,Z,z7,z8,z9,a0,a1]) ?_;have F0:=Kp.set (b:=w.heap.size) (i:=8) B4 (.s t v z);have P0:=Bq (i:=8) B4 (.s t v z);have R0:=D7 C4 (p:=.a (w.heap.size+1) 8) Fr (.s t v z);have F1:=F0.trans (Kp.set (i:=9) P0 (.s A B C));have P1:=Bq (i:=9) P0 (.s A B C);have R1:=D7 R0 (p:=.a (w.heap.size+1) 9) Fr (.s A B C);have F2:=F1.trans (Kp.set (i:=10) P1 (.i c.2));have P2:=Bq (i:=10) P1 (.i c.2);have R2:=D7 R1 (p:=.a (w.heap.size+1) 10) Fr (.i c.2);have F3:=F2.trans (Kp.set (i:=11) P2 (.i f.2));have P3:=Bq (i:=11) P2 (.i f.2);have R3:=D7 R2 (p:=.a (w.heap.size+1) 11) Fr (.i f.2);have F4:=F3.trans (Kp.set (i:=0) R3 (.i G));have R4:=Bq (i:=0) R3 (.i G);have F5:=F4.trans (Kp.set (i:=1) R4 (.i I));have R5:=Bq (i:=1) R4 (.i I);have F6:=F5.trans (Kp.set (i:=2) R5 (.s m p.toNat q));have R6:=Bq (i:=2) R5 (.s m p.toNat q);have F7:=F6.trans (Kp.set (i:=3) R6 (.i J));have R7:=Bq (i:=3) R6 (.i J);have F8:=F7.trans (Kp.set (i:=4) R7 (.i K));have R8:=Bq (i:=4) R7 (.i K);have F9:=F8.trans (Kp.set (i:=5) R8 (.i l));have R9:=Bq (i:=5) R8 (.i l);have h6:=F9.trans (Kp.set (i:=6) R9 (.i h));have b9:=Bq (i:=6) R9 (.i h);have h7:=h6.trans (Kp.set (i:=7) b9 (.string (s.extract (j+5) (j+5+n))));have c0:=Bq (i:=7) b9 (.string (s.extract (j+5) (j+5+n)));have h8:=h7.trans (Kp.set (i:=8) c0 (.s t v z));have c1:=Bq (i:=8) c0 (.s t v z);have h9:=h8.trans (Kp.set (i:=9) c1 (.s A B C));have c3:=Bq (i:=9) c1 (.s A B C);have i0:=h9.trans (Kp.set (i:=10) c3 (.i c.2));have c4:=Bq (i:=10) c3 (.i c.2);have a5:=i0.trans (Kp.set (i:=11) c4 (.i f.2));have j1:=Bq (i:=11) c4 (.i f.2);refine⟨_,_,_,_,_,_,_,_,_,_,rfl,⟨T4.kp a5 Ck,Bhm s j n d1,h3.kp a5 Ck,ml,Ba h5,h4.kp a5 Ck Ck⟩,?_⟩
 repeat (first|refine Bvq ?_ Fr _|exact h2)
def Wm (s:TB)(i:Int)(w:TW)(e:Ending)(w':TW):Prop :=
 ∃x0 x1 a2 n2 c2 x3 x4 x5 x6 sb a8 n8 c8 a9 n9 c9 x10 x11,e=.returned (.tuple #[.agg #[.int .i64 x0,.int .i64 x1,.slice a2 n2 c2,.int .i64 x3,.int .i64 x4,.int .i64 x5,.int .i64 x6,.string sb,.slice a8 n8 c8,.slice a9 n9 c9,.int .i64 x10,.int .i64 x11],.int .i64 (Rf.mth s i).2]) /\
    (0<=(Rf.mth s i).2->[.int .i64 x0,.int .i64 x1,.slice a2 n2 c2,.int .i64 x3,.int .i64 x4,.int .i64 x5,.int .i64 x6,.string sb,.slice a8 n8 c8,.slice a9 n9 c9,.int .i64 x10,.int .i64 x11]=Nr (Rf.mth s i).1 ⟨.slice a2 n2 c2,sb,.slice a8 n8 c8,.slice a9 n9 c9⟩ /\
     Sx w' w.heap.size (Rf.mth s i).1 ⟨.slice a2 n2 c2,sb,.slice a8 n8 c8,.slice a9 n9 c9⟩)/\Below w.heap.size w w'
def Bf7(s:ByteArray)(i:Int)(w:TW)(hs:s.size<=15000)(g:0<=i)(l:i<=50000):Calls prog 138 #[.string s,.i i] w fun e m=>Wm s.data.toList i w e m:=by
 have q:s.size<=maxLen:=Mc;have Q:s.data.toList.length=s.size:=Fr;have fail:(Rf.mth s.data.toList i).2 = -1->(Calls prog 138 #[.string s,.i i] w fun e m =>
   ∃V Y C D F Z x4 x5 x6 G I J K L N O a0 a1,e=.r (.tuple #[.agg #[.i V,.i Y,.s C D F,.i Z,.i x4,.i x5,.i x6,.string G,.s I J K,.s L N O,.i a0,.i a1],.i (-1)])/\Bl w m)->Calls prog 138 #[.string s,.i i] w fun e m=>Wm s.data.toList i w e m:=by
  intro hm hc;refine hc.mono ?_;rintro e m ⟨V,Y,C,D,F,Z,x4,x5,x6,G,I,J,K,L,N,O,a0,a1,rfl,hb⟩;refine⟨V,Y,C,D,F,Z,x4,x5,x6,G,I,J,K,L,N,O,a0,a1,by rw[hm],fun h=>?_,hb⟩;rw[hm]at h;exact absurd h Ck
 have b1:=Rf.cnt_bd s.data.toList (i+2) 0 4 Bd;by_cases c:Rf.cnt s.data.toList (i+2) 0 4<0;·refine fail ?_ (Bpv s i _ w q g l (Bc rfl) c);unfold Rf.mth;simp only;rw[Sp c]
 generalize b:Rf.cnt s.data.toList (i+2) 0 4=p at *;have a5:=Rf.cnt_bd s.data.toList (i+3+2*p+2) 0 8 Bd;have a6:=Rf.cnt_bd s.data.toList (i+3+2*p+3) 0 8 Bd;have a7:=Rf.cnt_bd s.data.toList (i+3+2*p+4) 1 120 Bd;by_cases f:Rf.cnt s.data.toList (i+3+2*p+2) 0 8<0;·refine fail ?_ (Yp s i p _ _ _ w q g l (Bc b) (Bc rfl) (Bc rfl) (Bc rfl) Bd Bd (.inl f));unfold Rf.mth;simp only;rw[b,Pf c,Sp f]
 by_cases t:Rf.cnt s.data.toList (i+3+2*p+3) 0 8<0;·refine fail ?_ (Yp s i p _ _ _ w q g l (Bc b) (Bc rfl) (Bc rfl) (Bc rfl) Bd Bd (.inr (.inl ⟨Bd,t⟩)));unfold Rf.mth;simp only;rw[b,Pf c,Pf f,Sp t]
 by_cases v:Rf.cnt s.data.toList (i+3+2*p+4) 1 120<0;·refine fail ?_ (Yp s i p _ _ _ w q g l (Bc b) (Bc rfl) (Bc rfl) (Bc rfl) Bd Bd (.inr (.inr (.inl ⟨Bd,Bd,v⟩))));unfold Rf.mth;simp only;rw[b,Pf c,Pf f,Pf t,Sp v]
 by_cases z:(s.size:Int)<i+3+2*p+5+Rf.cnt s.data.toList (i+3+2*p+4) 1 120;·refine fail ?_ (Yp s i p _ _ _ w q g l (Bc b) (Bc rfl) (Bc rfl) (Bc rfl) Bd Bd (.inr (.inr (.inr ⟨Bd,Bd,Bd,Bd,z⟩))));unfold Rf.mth;simp only;rw[b,Pf c,Pf f,Pf t,Pf v,Q,Sp z]
 obtain⟨j,A⟩:=Bvk (show 0<=i+3+2*p by omega);obtain⟨n,B⟩:=Bvk (show 0<=Rf.cnt s.data.toList (i+3+2*p+4) 1 120 by omega);have b2:=Rf.hnds_le s.data.toList ((j:Int)+5+(n:Int));have a3:n<=120:=Bd;have a4:j+5+n<=s.size:=Bd;rw[A]at f t v B a5 a6 a7 z;by_cases hq:(Rf.hnds s.data.toList ((j:Int)+5+(n:Int))).2<0;·refine fail ?_ (Bpu s i p _ _ j n _ w q g l (Bc b) A (Bc rfl) (Bc rfl) (Bc B) Bd Bd Bd Bd Bd Bd a3 a4 (Bc rfl) hq);unfold Rf.mth;simp only;rw[b,A,Pf c,Pf f,Pf t,Pf v,Q,Pf z,B,Sp hq]
 have hx:Rf.mth s.data.toList i=(⟨⟨Rf.at' s.data.toList i,Rf.at' s.data.toList (i+1),Rf.tys s.data.toList (i+3) p.toNat,(Rf.at' s.data.toList (j:Int),Rf.at' s.data.toList ((j:Int)+1)),Rf.cnt s.data.toList ((j:Int)+2) 0 8,Rf.cnt s.data.toList ((j:Int)+3) 0 8,Rf.codeTo s.data.toList ((j:Int)+5) n,(Rf.hnds s.data.toList ((j:Int)+5+(n:Int))).1,
   (Rf.mps s.data.toList (Rf.hnds s.data.toList ((j:Int)+5+(n:Int))).2 (Rf.cnt s.data.toList ((j:Int)+2) 0 8) (Rf.cnt s.data.toList ((j:Int)+3) 0 8)).1⟩,(Rf.hnds s.data.toList ((j:Int)+5+(n:Int))).2,(Rf.mps s.data.toList (Rf.hnds s.data.toList ((j:Int)+5+(n:Int))).2 (Rf.cnt s.data.toList ((j:Int)+2) 0 8) (Rf.cnt s.data.toList ((j:Int)+3) 0 8)).2⟩,
   (Rf.mps s.data.toList (Rf.hnds s.data.toList ((j:Int)+5+(n:Int))).2 (Rf.cnt s.data.toList ((j:Int)+2) 0 8) (Rf.cnt s.data.toList ((j:Int)+3) 0 8)).2):=by
  unfold Rf.mth;simp only;rw[b,A,Pf c,Pf f,Pf t,Pf v,Q,Pf z,B,Pf hq];rfl
 unfold Wm;rw[hx];refine(Bpt s i p _ _ _ _ _ _ _ j n _ _ w q g l (Bc b) A (Bc rfl) (Bc rfl) (Bc B) Bd Bd Bd Bd Bd Bd a3 a4 (Bc rfl) Bd Bd (Bc rfl) (Bc rfl) (Bc rfl) (Bc rfl) (Bc rfl) (Bc rfl)).mono ?_;rintro e m ⟨C,D,F,G,I,J,K,L,N,O,rfl,b0,hb⟩;exact⟨_,_,_,_,_,_,_,_,_,_,_,_,_,_,_,_,_,_,rfl,fun _=>⟨rfl,b0⟩,hb⟩
def Tryz.infoRClass:(prog.info? 225).map (fun i=>(i.zero,i.size,i.bytes))=some (some (.agg #[.i 0,.s none 0 0]),2,32):=Le
def Tryz.infoRMethod:(prog.info? 109).map (fun i=>(i.zero,i.size,i.bytes))=some (some (.agg #[.i 0,.i 0,.s none 0 0,.i 0,.i 0,.i 0,.i 0,.string ⟨#[]⟩,.s none 0 0,.s none 0 0,.i 0,.i 0]),12,152):=Le
def Rf.given:List Rd.Cls:=[⟨-1,[]⟩,⟨0,[]⟩,⟨1,[]⟩,⟨1,[]⟩,⟨1,[]⟩,⟨1,[]⟩,⟨1,[]⟩]
def V7:List (Rd.Cls × Value):=Rf.given.map fun c=>(c,.slice none 0 0)
def Ber(w:TW):Calls prog 134 #[] w fun e g=>∃a c,e=.r (.s a 7 c)/\Ir g w.heap.size (.s a 7 c) V7/\Bl w g:=by
 obtain⟨q,t,z,A,B⟩:=Bv4 Tryz.infoRClass;go_in;go_wp2
 go_loopw [1] (fun v wr=>∃k:Nat,2<=k/\k<=7/\wr.ownsRow w.heap.size 225 2 v k (Kr (V7.take k))/\lenOf v=k/\Bl w wr)
  (fun v _=>7-lenOf v)
 case atStart=>
  refine⟨2,Bd,Bd,?_,rfl,QN _⟩;exact⟨rfl,.inr ⟨w.heap.size,2,#[.i (-1),.s none 0 0,.i 0,.s none 0 0],rfl,Wf _,Bf w _,Bd,Mc,rfl,rfl⟩⟩
 case round=>
  obtain⟨k,C,Z,b,a0,f⟩:=hrel;obtain⟨va,vc,rfl⟩:=Bg b;have D:=f.size;by_cases F:k<7
  ·generalize G:Kr (V7.take k)=I at b;have J:Hid (Kr (V7.take (k+1))=I++[.i 1,.s none 0 0]):=by
    unfold Hid;rw[<- G]
    match k,C,F with
    | 2,_,_=>rfl
    | 3,_,_=>rfl
    | 4,_,_=>rfl
    | 5,_,_=>rfl
    | 6,_,_=>rfl
   go_wp2_with (at_builtin;refine Bvw _ rfl _ _ 44 rfl w.heap.size 225 q _ 2 32 underlying44 t z A B rfl Ck _ _ _ rfl (b.alloc _) ⟨wr.heap.size,0,none⟩ 1 1 [.i 1,.s none 0 0] rfl rfl ?c1 ?c2 ?c3 ?c4 ?c5 ?_)
   case c1=>exact Dv _ _ _ _ rfl
   case c2=>intro u h;simp at h;rcases h with rfl|rfl<;>rfl
   case c3=>unfold maxLen;omega
   case c4=>omega
   case c5=>simp;omega
   intro v' K l L _;obtain⟨N,O,rfl⟩:=Bg l;have Q:K.ownsRow w.heap.size 225 2 (.s N (k+1) O) (k+1) (Kr (V7.take (k+1))):=by rw[Ba J];exact l
   have V:=(f.alloc D (O10 1 none 0 0)).grown L Fm (fun j Y=>(b.lt j Y).1);go_wp2;go_roundw
   case rel=>exact⟨k+1,Bd,Bd,Q,rfl,V⟩
   case measure=>simp[lenOf];omega
  obtain rfl:k=7:=Bd;go_wp2;go_ret;refine⟨_,_,rfl,⟨b,?_⟩,f⟩;intro p m;have:p.2=.s none 0 0/\p.1.fields=[]:=by
   simp[V7,Rf.given]at m;rcases m with rfl|rfl|rfl<;>exact⟨rfl,rfl⟩
  rw[this.1,this.2];exact Bvl _ _ _ _
def Buc(s:TB)(i L H:Int)(b:0<=L)(c:L<=8)(e:H<=8):(Rf.mps s i L H).2<=i+2200\/(Rf.mps s i L H).2<0:=by
 have f:∀k:Nat,(Rf.rep (Rf.mp s L H) k (i+1)).2<=i+1+34*(k:Int)\/(Rf.rep (Rf.mp s L H) k (i+1)).2<0:=by
  intro k
  induction k with
  | zero=>left;simp[Rf.rep]
  | succ k ih =>
   unfold Rf.rep
   split
   ·right;simp
   split
   ·right;simp
   rename_i g h;have:=(Bsg (s:=s) (L:=L) (H:=H) (i:=(Rf.rep (Rf.mp s L H) k (i+1)).2) Bd e c b).1
   left
   simp only;omega
 unfold Rf.mps
 split
 ·right;simp
 have j:=Rf.cnt_bd s i 0 64 Bd;have:=f (Rf.cnt s i 0 64).toNat;omega
def Bua(s:TB)(i:Int):(Rf.mth s i).2<=(s.length:Int)+2200:=by
 unfold Rf.mth;simp only
 split
 ·simp only;omega
 split
 ·simp only;omega
 split
 ·simp only;omega
 split
 ·simp only;omega
 split
 ·simp only;omega
 split
 ·simp only;omega
 simp only;generalize e:i+3+2*Rf.cnt s (i+2) 0 4=j at *;have b:=Rf.cnt_bd s (j+2) 0 8 Bd;have c:=Rf.cnt_bd s (j+3) 0 8 Bd;have f:=Rf.hnds_le s (j+5+Rf.cnt s (j+4) 1 120);have:=Buc s (Rf.hnds s (j+5+Rf.cnt s (j+4) 1 120)).2 (Rf.cnt s (j+2) 0 8) (Rf.cnt s (j+3) 0 8) Bd b.2 c.2;omega
def Bur(s:TB)(i:Int):(Rf.cls s i).2<=i+10\/(Rf.cls s i).2<0:=by
 unfold Rf.cls
 split
 ·right;simp
 have:=Rf.cnt_bd s (i+1) 0 4 Bd
 left
 simp only;omega
def Nu (s:TB)(w:TW)(e:Ending)(w':TW):Prop :=
 ∃a1 n1 c1 a2 n2 c2,e=.returned (.tuple #[.agg #[.slice a1 n1 c1,.slice a2 n2 c2],.bool ((Rf.fil s).2.2==(s.length:Int))]) /\
  ((Rf.fil s).2.2=(s.length:Int)->∃l1 l2,l1.map Prod.fst=Rf.given++(Rf.fil s).1/\Ir w' w.heap.size (.slice a1 n1 c1) l1/\l2.map Prod.fst=(Rf.fil s).2.1/\Mf w' w.heap.size (.slice a2 n2 c2) l2)/\Below w.heap.size w w'
def Bbb(s:ByteArray)(w:TW)(x y n:Int)(b:s.size<=maxLen)(p:Hid (Rf.at' s.data.toList 0=x))(q:Hid (Rf.at' s.data.toList 1=y))(t:Hid (Rf.cnt s.data.toList 2 0 6=n))(h:(x != 83)=true\/((x != 83)=false/\(y != 77)=true)\/((x != 83)=false/\(y != 77)=false/\n<0)):Calls prog 87 #[.string s] w fun e v=>∃z A B C D F,e=.r (.tuple #[.agg #[.s z A B,.s C D F],.bool false])/\Bl w v:=by
 rcases h with f|⟨f,G⟩|⟨f,G,L⟩
 all_goals
  go_in;go_wp2_with fail;refine(Ber _).mono ?_;rintro e N ⟨I,J,rfl,O,g⟩;have c:=stay g (Bf w _);have i:=((Vm w.heap.size w).alloc (Wf _) _).trans (g.mono Fr);have K:=Pk c;obtain⟨j,l⟩:=cl2 c;obtain⟨Q,V⟩:=fr2 c;simp at j l;have Y:=i.size;go_wp2_with fail;refine(Gy s 0 _ b).mono ?_;rw[Ba p];rintro e m ⟨rfl,rfl⟩;go_wp2_with fail;refine(Gy s 1 _ b).mono ?_;rw[Ba q];rintro e m ⟨rfl,rfl⟩;go_wp2_with fail;refine(Ej s 2 0 6 _ b).mono ?_;rw[Ba t];rintro e m ⟨rfl,rfl⟩;go_wp2_with fail;refine tb (.tuple #[.agg #[.s I 7 J,.s none 0 0],.bool false]) (by simp[results,By1,go_sem,j,l,K]) ?_;exact⟨_,_,_,_,_,_,rfl,by repeat (first|refine Bwu ?_ Fm _|refine Bvq ?_ Fr _|exact i)⟩
def Bms(s:ByteArray)(w:TW)(n:Int)(f4:s.size<=15000)(HX:Hid (Rf.at' s.data.toList 0=83))(HY:Hid (Rf.at' s.data.toList 1=77))(HN:Hid (Rf.cnt s.data.toList 2 0 6=n))(i7:0<=n)(i8:n<=6):Calls prog 87 #[.string s] w fun e w'=>Nu s.data.toList w e w':=by
 have hs:s.size<=maxLen:=Mc;have f5:s.data.toList.length=s.size:=Fr;obtain⟨i0,hi,h2,h3,h4⟩:=Bv4 Tryz.infoRClass;obtain⟨j0,hj,h5,h6,h7⟩:=Bv4 Tryz.infoRMethod
 -- the document's answer, by its stages
 have f6:Rf.fil s.data.toList=(if (Rf.rep (Rf.cls s.data.toList) n.toNat 3).2<0 then ([],[],-1)
   else if Rf.cnt s.data.toList (Rf.rep (Rf.cls s.data.toList) n.toNat 3).2 1 6<0 then ([],[],-1)
   else if (Rf.rep (Rf.mth s.data.toList) (Rf.cnt s.data.toList (Rf.rep (Rf.cls s.data.toList) n.toNat 3).2 1 6).toNat ((Rf.rep (Rf.cls s.data.toList) n.toNat 3).2+1)).2<0 then ([],[],-1)
   else ((Rf.rep (Rf.cls s.data.toList) n.toNat 3).1,(Rf.rep (Rf.mth s.data.toList) (Rf.cnt s.data.toList (Rf.rep (Rf.cls s.data.toList) n.toNat 3).2 1 6).toNat ((Rf.rep (Rf.cls s.data.toList) n.toNat 3).2+1)).1,(Rf.rep (Rf.mth s.data.toList) (Rf.cnt s.data.toList (Rf.rep (Rf.cls s.data.toList) n.toNat 3).2 1 6).toNat ((Rf.rep (Rf.cls s.data.toList) n.toNat 3).2+1)).2)):=by
  unfold Rf.fil;simp only;rw[Pf (by rw[Ba HX];decide),Pf (by rw[Ba HY];decide),Ba HN,Pf Bd]
 unfold Nu;rw[f5];generalize hF:Rf.fil s.data.toList=F at *;have HF:=Bc f6;clear f6 hF;go_in;go_wp2_with fail;refine(Ber _).mono ?_;rintro e w1 ⟨ga,gc,rfl,hg,c6⟩;have C1:=stay c6 (Bf w _);have c7:=((Vm w.heap.size w).alloc (Wf _) _).trans (c6.mono Fr);have i9:=Pk C1;have s1:=c7.size;have f7:=hg.mono (b':=w.heap.size) Fr;go_wp2_with fail;refine(Gy s 0 _ hs).mono ?_;rw[Ba HX];rintro e w0 ⟨rfl,rfl⟩;go_wp2_with fail;refine(Gy s 1 _ hs).mono ?_;rw[Ba HY];rintro e w0 ⟨rfl,rfl⟩;go_wp2_with fail;refine(Ej s 2 0 6 _ hs).mono ?_;rw[Ba HN];rintro e w0 ⟨rfl,rfl⟩;have D0:=Bf w1 (O11 ga 7 gc none 0 0);have f8:=c7.alloc s1 (O11 ga 7 gc none 0 0);have C2:=Bk C1 (O11 ga 7 gc none 0 0);have f9:=f7.kp (Kp.alloc (e:=none) w1 (O11 ga 7 gc none 0 0)) Ck Ck;clear hg f7 c6 c7 C1;go_wp2
 go_loopw [8,9] (fun p j wr=>∃(k:Nat) (q:Int) (v:TX) (l:List (Rd.Cls×Value)),(k:Int)<=n/\j=.i k/\p=.i q/\0<=q/\q<=3+10*(k:Int)/\l.length=7+k/\Hid (Rf.rep (Rf.cls s.data.toList) k 3=((l.map Prod.fst).drop 7,q)/\(l.map Prod.fst).take 7=Rf.given)/\Ir wr w.heap.size v l /\
   wr.heap[w1.heap.size]?=some (.cells #[v,.s none 0 0] 47 (0,0))/\wr.heap[w.heap.size]?=some (O11 none 0 0 none 0 0)/\Bl w wr)
  (fun _ j _=>n.toNat-(intOf j).toNat)
 case atStart=>exact⟨0,3,_,V7,Bd,rfl,rfl,Bd,Bd,rfl,⟨rfl,rfl⟩,f9,D0,C2,f8⟩
 case round=>
  clear f9 D0 C2 f8;obtain⟨k,q,v,l,hk,rfl,rfl,b6,j1,b4,HQ,a0,D,A,G⟩:=hrel;obtain⟨L,vc,rfl⟩:=Bg a0.1;have a5:=G.size;have g2:=Pk D;have g3:=Pk A;have b2:=Bc b4;have j2:l.length<=13:=Bd;clear b4;by_cases h8:(k:Int)<n
  ·generalize g:Rf.cls s.data.toList q=c at *;have d6:=Bur s.data.toList q;rw[g]at d6;by_cases b7:c.2<0
   ·have b5:F=([],[],-1):=by
     rw[Ba HF,Bbc (k:=k) (by rw[(Ba HQ).1];exact b6) (by rw[(Ba HQ).1];rw[g];exact b7) _ Bd,Sp Ck]
    have a6:=Bc b5;have Hc:=Bc g;clear b5 g;go_wp2_with fail;refine(Bb2 s q _ hs b6 Bd).mono ?_;rw[Ba Hc];rintro e I ⟨x,ua,un,uc,rfl,_,f⟩;have J:=G.trans (f.mono a5);have s3:=J.size;have B:=stay f D;have K:=stay f A;have l3:=Pk B;have l4:=Pk K;obtain⟨N,d1⟩:=cl2 B;obtain⟨O,Q⟩:=cl2 K;obtain⟨g0,g1⟩:=fr2 K;simp at N d1 O Q;go_wp2_with fail;refine tb (.tuple #[.agg #[.s L l.length vc,.s none 0 0],.bool false]) (by simp[results,By1,go_sem,O,Q,l4]) ?_;rw[Ba a6];refine⟨L,l.length,vc,none,0,0,?_,fun h=>?_,by repeat (first|refine Bwu ?_ Fm _|refine Bvq ?_ Fr _|exact J)⟩
    ·rw[show ((-1:Int)==(s.size:Int))=false by first|(simp;done)|(simp;omega)]
    exfalso;simp only at h;omega
   have HE:Hid (Rf.rep (Rf.cls s.data.toList) (k+1) 3=((l.map Prod.fst).drop 7++[c.1],c.2)):=Rf.rep_step (Ba HQ).1 b6 g Bd;have Hc:=Bc g;clear g;go_wp2_with fail;refine(Bb2 s q _ hs b6 Bd).mono ?_;rw[Ba Hc];rintro e I ⟨x,ua,un,uc,rfl,hx,f⟩;obtain⟨rfl,g4⟩:=hx Bd;have J:=G.trans (f.mono a5);have s3:=J.size;have B:=stay f D;have K:=stay f A;have l3:=Pk B;have b3:=a0.kp (Kp.of_below (e:=none) f) Ck Ck;have T3:=g4.mono a5;have N:=Bb B 0;have f0:=Bj B 0;simp at N;have h9:=Bc b3.2;have a1:=b3.1;clear a0 b3 g4 f D A G hx;go_wp2_with (at_builtin;refine Bvw _ rfl _ _ 44 rfl w.heap.size 225 i0 _ 2 32 underlying44 hi h2 h3 h4 rfl Ck _ _ _ rfl ((a1.alloc _).alloc _) ⟨I.heap.size+1,0,none⟩ 1 1 [.i c.1.above,.s ua un uc] rfl rfl ?c1 ?c2 ?c3 ?c4 ?c5 ?_)
   case c1=>exact Dv _ _ _ _ Fr
   case c2=>intro u hu;simp at hu;rcases hu with rfl|rfl<;>rfl
   case c3=>unfold maxLen;omega
   case c4=>omega
   case c5=>simp;omega
   intro v' w5 b0 b1 _;obtain⟨V,Y,rfl⟩:=Bg b0;have d7:=((J.alloc s3 _).alloc Fm _).grown b1 Fm (fun j hj=>(a1.lt j hj).1);have hK:=((Kp.alloc (e:=some 225) (b:=0) _ _).trans (Kp.alloc _ _)).trans (Kp.of_grown b1 ((a1.alloc _).alloc _));have a3:=hK _ _ _ (Bv5 _) B Ck;have d8:=hK _ _ _ (Bv5 _) K Ck;have x1:=Bb a3 0;have f1:=Bj a3 0;simp at x1;have a7:Kp (some 225) w.heap.size I w5:=fun k cs t _ g ht=>hK k cs t (Bv5 _) g ht;have Z:=Kp.set (b:=w.heap.size) (i:=0) a3 (.s V (l.length+1) Y);have d9:Ir (w5.setCell (.a w1.heap.size 0) (.s V (l.length+1) Y)) w.heap.size (.s V (l.length+1) Y) (l++[(c.1,.s ua un uc)]):=by
    refine⟨?_,?_⟩
    ·rw[Ba6,Up];exact Cx b0 Z Ck
    intro p C;rw[Bwt]at C;rcases C with C|C
    ·exact((Ba h9 p C).kp a7 Ck).kp Z Ck
    simp only[Bxa]at C;subst C;exact(T3.kp a7 Ck).kp Z Ck
   have HD:=Bq (i:=0) a3 (.s V (l.length+1) Y);have HC:=D7 d8 (p:=.a w1.heap.size 0) Fm (.s V (l.length+1) Y);have g5:Hid (7<=(l.map Prod.fst).length):=by unfold Hid;rw[Bvr,Ba b2];omega
   clear b1 a1 b0 hK a7 B K J Z T3;go_wp2;go_roundw
   case rel=>
    refine⟨k+1,_,_,_,Bd,Lt,rfl,Bd,Bd,by rw[Up,Ba b2];simp;omega,⟨?_,?_⟩,d9,HD,HC,d7.setCell Fm _⟩
    ·rw[Ba HE,Bvx,Bxz (Ba g5)];rfl
    rw[Bvx,Byg (Ba g5)];exact(Ba HQ).2
   case measure=>simp[intOf];omega
  obtain rfl:k=n.toNat:=Bd;have g6:Rf.rep (Rf.cls s.data.toList) n.toNat 3=((l.map Prod.fst).drop 7,q):=(Ba HQ).1;generalize hm:Rf.cnt s.data.toList q 1 6=m at *;have g7:=Rf.cnt_bd s.data.toList q 1 6 Bd;rw[hm]at g7;obtain⟨j3,j4⟩:=g7;have a4:=Ba HF;rw[g6,Pf Ls]at a4;simp only at a4;rw[hm]at a4;have HM:=Bc hm;have i1:=Bc (Ba HQ).2;clear hm g6 HQ HF b2;by_cases b7:m<0
  ·rw[Sp b7]at a4;have a6:=Bc a4;clear a4;obtain⟨N,d1⟩:=cl2 D;obtain⟨O,Q⟩:=cl2 A;obtain⟨g0,g1⟩:=fr2 A;simp at N d1 O Q;go_wp2_with fail;refine(Ej s q 1 6 _ hs).mono ?_;rw[Ba HM];rintro e w0 ⟨rfl,rfl⟩;go_wp2_with fail;refine tb (.tuple #[.agg #[.s L l.length vc,.s none 0 0],.bool false]) (by simp[results,By1,go_sem,O,Q]) ?_;rw[Ba a6];refine⟨L,l.length,vc,none,0,0,?_,fun h=>?_,by repeat (first|refine Bvq ?_ Fr _|exact G)⟩
   ·rw[show ((-1:Int)==(s.size:Int))=false by first|(simp;done)|(simp;omega)]
   exfalso;simp only at h;omega
  rw[Pf b7]at a4;have a6:=Bc a4;clear a4;go_wp2_with fail;refine(Ej s q 1 6 _ hs).mono ?_;rw[Ba HM];rintro e w0 ⟨rfl,rfl⟩;go_wp2
  go_loopw [8,12] (fun p j I=>∃(k:Nat) (t:Int) (v:TX) (z:List (Rf.Mth×Ms)),(k:Int)<=m/\j=.i k/\p=.i t/\0<=t/\t<=20000/\z.length=k/\Hid (Rf.rep (Rf.mth s.data.toList) k (q+1)=(z.map Prod.fst,t))/\Mf I w.heap.size v z/\Ir I w.heap.size (.s L l.length vc) l /\
    I.heap[w1.heap.size]?=some (.cells #[.s L l.length vc,v] 47 (0,0))/\I.heap[w.heap.size]?=some (O11 none 0 0 none 0 0)/\Bl w I)
   (fun _ j _=>m.toNat-(intOf j).toNat)
  case atStart=>exact⟨0,_,_,[],Bd,rfl,rfl,Bd,Bd,rfl,rfl,⟨Bvl _ _ _ _,Fr⟩,a0,D,A,G⟩
  case round=>
   clear a0 D A G g2 g3 a5;obtain⟨k,t,v,z,hk,rfl,rfl,b8,j5,b4,HT,b9,a0,D,A,G⟩:=hrel;obtain⟨vb,vd,rfl⟩:=Bg b9.1;have a5:=G.size;have g2:=Pk D;have g3:=Pk A;have b2:=Bc b4;have j6:z.length<=6:=Bd;clear b4;by_cases h8:(k:Int)<m
   ·generalize g:Rf.mth s.data.toList t=c at *;have d6:=Bua s.data.toList t;rw[g,f5]at d6;by_cases i2:c.2<0
    ·have b5:F=([],[],-1):=by
      rw[Ba a6,Bbc (k:=k) (by rw[Ba HT];exact b8) (by rw[Ba HT];rw[g];exact i2) _ Bd,Sp Ck]
     have f2:=Bc b5;have Hc:=Bc g;clear b5 g a6;go_wp2_with fail;refine(Bf7 s t _ f4 b8 Bd).mono ?_;unfold Wm;rw[Ba Hc];rintro e I ⟨x0,x1,a2,n2,c2,x3,x4,x5,x6,sb,a8,n8,c8,a9,n9,c9,g8,g9,rfl,_,f⟩;have J:=G.trans (f.mono a5);have s3:=J.size;have B:=stay f D;have K:=stay f A;have l3:=Pk B;have l4:=Pk K;obtain⟨N,d1⟩:=cl2 B;obtain⟨O,Q⟩:=cl2 K;obtain⟨g0,g1⟩:=fr2 K;simp at N d1 O Q;go_wp2_with fail;refine tb (.tuple #[.agg #[.s L l.length vc,.s vb z.length vd],.bool false]) (by simp[results,By1,go_sem,O,Q,l4]) ?_;rw[Ba f2];refine⟨L,l.length,vc,vb,z.length,vd,?_,fun h=>?_,by repeat (first|refine Bwu ?_ Fm _|refine Bvq ?_ Fr _|exact J)⟩
     ·rw[show ((-1:Int)==(s.size:Int))=false by first|(simp;done)|(simp;omega)]
     exfalso;simp only at h;omega
    have HE:Hid (Rf.rep (Rf.mth s.data.toList) (k+1) (q+1)=(z.map Prod.fst++[c.1],c.2)):=Rf.rep_step (Ba HT) b8 g Bd;have Hc:=Bc g;clear g;go_wp2_with fail;refine(Bf7 s t _ f4 b8 Bd).mono ?_;unfold Wm;rw[Ba Hc];rintro e I ⟨x0,x1,a2,n2,c2,x3,x4,x5,x6,sb,a8,n8,c8,a9,n9,c9,g8,g9,rfl,hx,f⟩;obtain⟨Et,h0⟩:=hx Bd;have i3:=Bc Et;have J:=G.trans (f.mono a5);have s3:=J.size;have B:=stay f D;have K:=stay f A;have l3:=Pk B;have f3:=b9.kp (Kp.of_below (e:=none) f) Ck Ck Ck Ck;have b3:=a0.kp (Kp.of_below (e:=none) f) Ck Ck;have T3:=h0.mono a5;have N:=Bb B 1;have f0:=Bj B 1;simp at N;have i4:=Bc f3.2;have a1:=f3.1;clear b9 f3 h0 f D A G hx Et a0;go_wp2_with (at_builtin;refine Bvw _ rfl _ _ 45 rfl w.heap.size 109 j0 _ 12 152 underlying45 hj h5 h6 h7 rfl Ck _ _ _ rfl ((a1.alloc _).alloc _) ⟨I.heap.size+1,0,none⟩ 1 1 [.i x0,.i x1,.s a2 n2 c2,.i x3,.i x4,.i x5,.i x6,.string sb,.s a8 n8 c8,.s a9 n9 c9,.i g8,.i g9] rfl rfl ?d1 ?d2 ?d3 ?d4 ?d5 ?_)
    case d1=>exact Dv _ _ _ _ Fr
    case d2=>intro u hu;simp at hu;rcases hu with rfl|rfl|rfl|rfl|rfl|rfl|rfl|rfl|rfl|rfl|rfl|rfl<;>rfl
    case d3=>unfold maxLen;omega
    case d4=>omega
    case d5=>simp;omega
    intro v' w5 b0 b1 _;obtain⟨V,Y,rfl⟩:=Bg b0;have d7:=((J.alloc s3 _).alloc Fm _).grown b1 Fm (fun j hj=>(a1.lt j hj).1);have hK:=((Kp.alloc (e:=some 109) (b:=0) _ _).trans (Kp.alloc _ _)).trans (Kp.of_grown b1 ((a1.alloc _).alloc _));have a3:=hK _ _ _ (Bv5 _) B Ck;have d8:=hK _ _ _ (Bv5 _) K Ck;have i5:=Bb a3 1;have f1:=Bj a3 1;simp at i5;have a7:Kp (some 109) w.heap.size I w5:=fun k cs t _ g ht=>hK k cs t (Bv5 _) g ht;have Z:=Kp.set (b:=w.heap.size) (i:=1) a3 (.s V (z.length+1) Y);have i6:Mf (w5.setCell (.a w1.heap.size 1) (.s V (z.length+1) Y)) w.heap.size (.s V (z.length+1) Y) (z++[(c.1,⟨.s a2 n2 c2,sb,.s a8 n8 c8,.s a9 n9 c9⟩)]):=by
     refine⟨?_,?_⟩
     ·rw[Bfc,Up,<- Ba i3];exact Cx b0 Z Ck
     intro p C;rw[Bwt]at C;rcases C with C|C
     ·exact((Ba i4 p C).kp a7 Ck Ck Ck).kp Z Ck Ck Ck
     simp only[Bxa]at C;subst C;exact(T3.kp a7 Ck Ck Ck).kp Z Ck Ck Ck
    have d9:=(b3.kp a7 Ck Ck).kp Z Ck Ck;have HD:=Bq (i:=1) a3 (.s V (z.length+1) Y);have HC:=D7 d8 (p:=.a w1.heap.size 1) Fm (.s V (z.length+1) Y);clear b1 a1 b0 hK a7 B K J Z T3 b3;go_wp2;go_roundw
    case rel=>
     refine⟨k+1,_,_,_,Bd,Lt,rfl,Bd,Bd,by rw[Up,Ba b2];rfl,?_,i6,d9,HD,HC,d7.setCell Fm _⟩;unfold Hid;rw[Ba HE,Bvx];rfl
    case measure=>simp[intOf];omega
   obtain rfl:k=m.toNat:=Bd;have h1:Rf.rep (Rf.mth s.data.toList) m.toNat (q+1)=(z.map Prod.fst,t):=Ba HT;have c0:=Ba a6;rw[h1,Pf Ls]at c0;simp only at c0;have f2:=Bc c0;clear c0 h1 a6 b2;obtain⟨N,d1⟩:=cl2 D;obtain⟨O,Q⟩:=cl2 A;obtain⟨g0,g1⟩:=fr2 A;simp at N d1 O Q;go_wp2_with fail;refine tb (.tuple #[.agg #[.s L l.length vc,.s vb z.length vd],.bool (t==(s.size:Int))]) (by simp[results,By1,go_sem,O,Q]) ?_;rw[Ba f2];have k1:=(Kp.set (b:=w.heap.size) (i:=0) A (.s L l.length vc)).trans (Kp.set (i:=1) (Bq (i:=0) A (.s L l.length vc)) (.s vb z.length vd));refine⟨L,l.length,vc,vb,z.length,vd,rfl,fun _=>⟨l,?_,a0.kp k1 Ck Ck,z,rfl,b9.kp k1 Ck Ck Ck Ck⟩,by repeat (first|refine Bvq ?_ Fr _|exact G)⟩
   rw[<- Ba i1,Bxm]
def Bmt(s:ByteArray)(w:TW)(z:s.size<=15000):Calls prog 87 #[.string s] w fun e c=>Nu s.data.toList w e c:=by
 have g:s.size<=maxLen:=Mc;have i:Rf.fil s.data.toList=([],[],-1)->(Calls prog 87 #[.string s] w fun e c=>∃j l m p q t,e=.r (.tuple #[.agg #[.s j l m,.s p q t],.bool false])/\Bl w c) ->
   Calls prog 87 #[.string s] w fun e c=>Nu s.data.toList w e c:=by
  intro A B;refine B.mono ?_;rintro e c ⟨j,l,m,p,q,t,rfl,C⟩;unfold Nu;rw[A];refine⟨j,l,m,p,q,t,?_,fun h=>?_,C⟩
  ·rw[show ((-1:Int)==(s.data.toList.length:Int))=false by rw[Byp];omega]
  exfalso;simp only at h;omega
 have D:=Rf.cnt_bd s.data.toList 2 0 6 Bd;by_cases b:Rf.at' s.data.toList 0=83
 ·by_cases f:Rf.at' s.data.toList 1=77
  ·by_cases v:Rf.cnt s.data.toList 2 0 6<0;·refine i ?_ (Bbb s w 83 77 _ g (Bc b) (Bc f) (Bc rfl) (.inr (.inr ⟨Ck,Ck,v⟩)));unfold Rf.fil;rw[Pf (fun h=>h b),Pf (fun h=>h f),Sp v]
   exact Bms s w _ z (Bc b) (Bc f) (Bc rfl) Bd D.2
  refine i ?_ (Bbb s w 83 _ _ g (Bc b) (Bc rfl) (Bc rfl) (.inr (.inl ⟨Ck,by simpa using f⟩)));unfold Rf.fil;rw[Pf (fun h=>h b),Sp f]
 refine i ?_ (Bbb s w _ _ _ g (Bc rfl) (Bc rfl) (Bc rfl) (.inl (by simpa using b)));unfold Rf.fil;rw[Sp b]
def Tr.rb(l:TI)(b:Int):Nat->Int->Bool
 | 0,_=>false
 | n+1,a=>if a=b then true else if Tr.hasB l a=false then false else Tr.rb l b n (l.getD a.toNat 0)
def Tr.rbel(l:TI)(a b:Int):Bool:=Tr.rb l b (l.length+1) a
def Cw (l:List (Rd.Cls × Value)):List Int:=(l.map Prod.fst).map Rd.Cls.above
def Kd(l:List (Rd.Cls×Value)):(Cw l).length=l.length:=by simp[Cw]
def Bmj(l:List (Rd.Cls×Value))(k:Nat)(h:k<l.length):(Cw l).getD k 0=l[k].1.above:=by
 simp[Cw,Th,h]
def N4(T:TI)(a b:TA)(c f g:Nat)(x:Int)(w:TW):Calls prog 89 #[.agg #[.s a T.length c,.s b f g],.i x] w fun e h=>e=.r (.bool (Tr.hasB T x))/\Bl w h:=by
 unfold Tr.hasB;by_cases j:0<=x;·go_in;go_wp2;go_ret;exact⟨by simp[j],QN _⟩
 go_in;go_wp2;go_ret;exact⟨Fm,QN _⟩
def Yo(T:TI)(a j:TA)(c l m:Nat)(k n:Int)(w:TW):Calls prog 90 #[.agg #[.s a T.length c,.s j l m],.agg #[.i k,.i n]] w fun e z=>e=.r (.bool (Tr.plainB T k n))/\Bl w z:=by
 unfold Tr.plainB;generalize A:Tr.hasB T n=B;have t:=Bc A;by_cases p:k=1
 ·rw[Sp p];subst p;cases C:(n==0)
  all_goals
   go_in;go_wp2_with fail;refine(N4 T a j c l m n _).mono ?_;rw[Ba t];rintro e v ⟨rfl,b⟩;have f:=stay b (Bv w _ _);obtain⟨g,h⟩:=cl2 f;simp at g h;go_wp2;go_ret;exact⟨rfl,(Bx _ _ _).trans (b.mono Fm)⟩
 rw[Pf p];have D:(k==1)=false:=by simp[p]
 by_cases q:k=3
 ·rw[Sp q];subst q;cases B
  all_goals
   go_in;go_wp2_with fail;refine(N4 T a j c l m n _).mono ?_;rw[Ba t];rintro e v ⟨rfl,b⟩;have f:=stay b (Bv w _ _);obtain⟨g,h⟩:=cl2 f;simp at g h;go_wp2;go_ret;exact⟨rfl,(Bx _ _ _).trans (b.mono Fm)⟩
 rw[Pf q];have F:(k==3)=false:=by simp[q]
 go_in;go_wp2_with fail;refine(N4 T a j c l m n _).mono ?_;rw[Ba t];rintro e v ⟨rfl,b⟩;have f:=stay b (Bv w _ _);obtain⟨g,h⟩:=cl2 f;simp at g h;go_wp2;go_ret;exact⟨rfl,(Bx _ _ _).trans (b.mono Fm)⟩
def Bt3{a B:Int}{n:Nat}(h:a=B):Tr.rb z B (n+1) a=true:=by simp[Tr.rb,h]
def Bt0{a B:Int}{n:Nat}(h:a≠B)(c:Tr.hasB z a=false):Tr.rb z B (n+1) a=false:=by simp[Tr.rb,h,c]
def Bu2{a B:Int}{n:Nat}(h:a≠B)(c:Tr.hasB z a=true):Tr.rb z B (n+1) a=Tr.rb z B n (z.getD a.toNat 0):=by simp[Tr.rb,h,c]
def N5(b j:TA)(c t v N:Nat)(l:List (Rd.Cls×Value))(x y:Int)(w:TW)(hl:l.length<=1000)(O:Ir w N (.s b l.length c) l):Calls prog 91 #[.agg #[.s b l.length c,.s j t v],.i x,.i y] w fun e Q=>e=.r (.bool (Tr.rbel (Cw l) x y))/\Bl w Q:=by
 unfold Tr.rbel;rw[Kd];generalize V:Tr.rb (Cw l) y (l.length+1) x=r;have z:Hid (Tr.rb (Cw l) y (l.length+1-0) x=r):=V;have Y:Bl w (w.alloc (O11 b l.length c j t v)):=QN _;have Z:=Bf w (O11 b l.length c j t v);go_in;go_wp2
 go_loopw [1,7] (fun p i wr=>∃(k:Nat) (q:Int),k<=l.length+1/\i=.i k/\p=.i q/\Hid (Tr.rb (Cw l) y (l.length+1-k) q=r)/\Bl w wr /\
   wr.heap[w.heap.size]?=some (O11 b l.length c j t v))
  (fun _ i _=>l.length+1-(intOf i).toNat)
 case atStart=>exact⟨0,_,Bd,rfl,rfl,z,Y,Z⟩
 case round=>
  obtain⟨k,q,hk,rfl,rfl,z,A,G⟩:=hrel;obtain⟨c0,d1⟩:=cl2 G;simp at c0 d1;have I:=A.size;by_cases a5:k<=l.length
  ·by_cases B:q=y
   ·have a0:(q==y)=true:=by simp[B]
    have C:r=true:=by rw[<- Ba z,show l.length+1-k=(l.length-k)+1 by omega];exact Bt3 B
    have f:=Bc C;go_wp2;go_ret;exact⟨by rw[Ba f];rfl,A⟩
   have a0:(q==y)=false:=by simp[B]
   cases h:Tr.hasB (Cw l) q with
   | false =>
    have C:r=false:=by rw[<- Ba z,show l.length+1-k=(l.length-k)+1 by omega];exact Bt0 B h
    have f:=Bc C;have F:=Bc h;go_wp2_with fail;refine(show Calls prog _ _ _ _ from by have:=N4 (Cw l) b j c t v q wr;rw[Kd]at this;exact this).mono ?_;rw[Ba F];rintro e w2 ⟨rfl,D⟩;go_wp2;go_ret;exact⟨by rw[Ba f];rfl,A.trans (D.mono I)⟩
   | true =>
    have hq:0<=q/\q<(l.length:Int):=by
     unfold Tr.hasB at h;rw[Kd]at h;simpa using h
    obtain⟨m,hm⟩:=Bvk hq.1;subst hm;have J:m<l.length:=Bd;have f:Hid (Tr.rb (Cw l) y (l.length+1-(k+1)) l[m].1.above=r):=by
     unfold Hid;rw[<- Ba z,show l.length+1-k=(l.length+1-(k+1))+1 by omega,Bu2 B h,Bvn,Bmj l m J]
    have F:=Bc h;go_wp2_with fail;refine(show Calls prog _ _ _ _ from by have:=N4 (Cw l) b j c t v (m:Int) wr;rw[Kd]at this;exact this).mono ?_;rw[Ba F];rintro e w2 ⟨rfl,D⟩;have K:=A.trans (D.mono I);have L:=stay D G;obtain⟨g,hg,a6,_,a3⟩:=Cf (Cx O.1 (Kp.of_below (e:=none) K) Ck) Bd;obtain⟨e1,e2,e3⟩:=Ns l m J;have x0:=a3 (m*2) Bd;rw[e1]at x0;have a4:=Bb L 0;simp at a4;generalize l[m].1.above=ab at *;subst hg;go_wp2;go_roundw
    case rel=>exact⟨k+1,_,Bd,Lt,rfl,f,K,L⟩
    case measure=>simp[intOf];omega
  have C:r=false:=by rw[<- Ba z,show l.length+1-k=0 by omega];rfl
  have f:=Bc C;go_wp2;go_ret;exact⟨by rw[Ba f];rfl,A⟩
namespace Tr
def Bt1(l:TI)(e:0<=c)(n:Nat):rb l c n (-1)=false:=by
 cases n with
 | zero=>rfl
 | succ k =>
  unfold rb;rw[Pf Bd,Sp (by simp[hasB])]
def Bs8(h:Ok z){a B:Int}(g:0<a)(c:a<(z.length:Int))(i:0<=B)(j:a≠B):At z a B<->At z (ov z a) B:=by
 constructor
 ·rintro (e|e)
  ·exact absurd e.symm j
  rcases Bcs h Bd i c e with f|f
  ·exact .inl f
  exact .inr f
 rintro (e|e)
 ·right;rw[e];exact Wh h g c
 right;exact Uf h (Aa h g c) i c (Wh h g c) e
def Bt2(h:Ok z)(i:0<=c)(n:Nat):∀{a:Int},0<=a->a<(z.length:Int)->a<(n:Int)->(rb z c n a=true<->At z a c):=by
 induction n with
 | zero=>intro a m _ q;omega
 | succ k ih =>
  intro a m j v;unfold rb;by_cases f:a=c;·rw[Sp f];exact⟨fun _=>.inl f.symm,fun _=>rfl⟩
  rw[Pf f];have s:hasB z a=true:=by simp[hasB];omega
  rw[s,Pf Fr];have p:ov z a=z.getD a.toNat 0:=by unfold ov;rw[Pf Bd,Pf Bd]
  rw[<- p];by_cases t:a=0
  ·subst t;have:ov z 0 = -1:=by
    have:=A8 h (show (0:Int)<=0 by omega);have q:-1<=ov z 0:=by
     rw[p];have:=h.2.1;simpa using (by rw[this];omega:(-1:Int)<=z.getD 0 0)
    omega
   rw[this,Bt1 z i]
   constructor
   ·intro g;cases g
   rintro (e|e)
   ·omega
   have:=below_lt h i j e;omega
  have u1:=A8 h m;have u2:=Aa h Bd j;rw[ih u2 Bd Bd];exact(Bs8 h Bd j i f).symm
def rbel_iff(h:Ok z){a b:Int}(c:0<=a)(e:a<(z.length:Int))(f:0<=b):rbel z a b=true<->At z a b :=
 Bt2 h f (z.length+1) c e Bd
def rfits(l:TI)(k n k' n':Int):Bool :=
 if k=k'/\n=n' then true else if k'=0 then true else if k=2 then (k' == 3) else if k=3 then (k' == 3)&&rbel l n n' else false
def rfits_eq(h:Ok z){k n f:Int}(s:Arg z k n)(t:Arg z c f):rfits z k n c f=fitsB z k n c f:=by
 unfold rfits fitsB;by_cases i:k=c/\n=f;·rw[Sp i,Sp i]
 rw[Pf i,Pf i];by_cases p:c=0;·rw[Sp p,Sp p]
 rw[Pf p,Pf p];by_cases j:c=3
 ·have v:¬c≠3:=fun g=>g j;rw[Pf v];by_cases q:k=2;·rw[Sp q,Sp q];simp[j]
  rw[Pf q,Pf q];by_cases m:k=3;·rw[Sp m,Sp m];subst j m;have e:=rbel_iff h (a:=n) (b:=f) (by unfold Arg at s;omega) (by unfold Arg at s;omega) (by unfold Arg at t;omega);have:below z n f=true<->At z n f:=⟨.inr,fun g=>g.elim (fun e=>absurd ⟨rfl,e.symm⟩ i) id⟩;rw[show ((3:Int)==3)=true from rfl,Bxn];exact Bool.eq_iff_iff.2 (e.trans this.symm)
  rw[Pf m,Pf m]
 rw[Sp j];have:(c==3)=false:=by simp[j]
 rw[this];simp
end Tr
def Tr.badOf(x:Int × Int):Int:=if x.1=0 then -1 else x.2
theorem Bgb(G q:Option Addr)(h s t bb:Nat)(l:List (Rd.Cls×Value))(w:World)(hl:l.length<=13)(c8:7<=l.length)(b7:∀p∈l,p.1.fields.length<=1000)(hc:Ir w bb (.slice G l.length h) l):Calls prog 88 #[.agg #[.slice G l.length h,.slice q s t]] w fun e f=>e=.returned (.int .i64 (Tr.badOf (Tr.inCl (Cw l) 0 ((l.map Prod.fst).drop 7))))/\Below w.heap.size w f:=by
 generalize b:Tr.badOf (Tr.inCl (Cw l) 0 ((l.map Prod.fst).drop 7))=r;have I:Hid (Tr.badOf (Tr.inCl (Cw l) 0 ((l.map Prod.fst).drop (7+0)))=r):=b;clear b;have b2:Below w.heap.size w (w.alloc (O11 G l.length h q s t)):=QN _;have b3:=Bf w (O11 G l.length h q s t);go_in;go_wp2
 go_loopw [3] (fun i wr=>∃k:Nat,7+k<=l.length/\i=.int .i64 (7+(k:Int))/\Hid (Tr.badOf (Tr.inCl (Cw l) k ((l.map Prod.fst).drop (7+k)))=r)/\Below w.heap.size w wr /\
   wr.heap[w.heap.size]?=some (O11 G l.length h q s t))
  (fun i _=>l.length-(intOf i).toNat)
 case atStart=>exact⟨0,Bd,rfl,I,b2,b3⟩
 case round=>
  clear b2 b3 I;obtain⟨k,hk,rfl,I,C,hx⟩:=hrel;obtain⟨c0,d1⟩:=cl2 hx;simp at c0 d1;have c9:=C.size;by_cases Y:7+k<l.length
  ·have a3:=hc.kp (Kp.of_below (e:=none) C) Ck Ck;obtain⟨g,hg,d0,_,a4⟩:=Cf a3.1 Bd;obtain⟨e1,e2,e3⟩:=Ns l (7+k) Y;have x0:=a4 ((7+k)*2) Bd;have Z:=a4 ((7+k)*2+1) Bd;rw[e1]at x0;rw[e2]at Z;have d2:=b7 _ (Bvh Y);have a5:=a3.2 _ (Bvh Y);obtain⟨ua,uc,hu⟩:=Bg a5;rw[hu]at Z a5;have hd:(l.map Prod.fst).drop (7+k)=l[7+k].1::(l.map Prod.fst).drop (7+(k+1)):=by
    rw[Wr (by simpa using Y)];simp;rfl
   have b:=Ba I;rw[hd,Tr.inCl]at b;generalize b8:l[7+k].1=c at *;have it:((7:Int)+(k:Int)).toNat=7+k:=Bd;have d3:0<=(7:Int)+(k:Int):=Bd;have d4:(7:Int)+(k:Int)<(l.length:Int):=Bd;clear a4 e1 e2 e3 b8 hd hu a3;subst hg;by_cases h1:7+(k:Int)<=c.above
   ·rw[Sp h1]at b;have J:r=7+(k:Int):=by rw[<- b];simp[Tr.badOf]
    have v:=Bc J;clear b J;go_wp2;go_ret;exact⟨by rw[Ba v];rfl,C⟩
   rw[Pf h1]at b;generalize A:Tr.allPlainB (Cw l) c.fields=K at b;have a6:Hid (Tr.allPlainB (Cw l) (c.fields.drop 0)=K):=by unfold Hid;simpa using A
   have a0:=Bc b;clear b A;go_wp2
   go_loopw [5] (fun j w2=>∃m:Nat,m<=c.fields.length/\j=.int .i64 m/\Hid (Tr.allPlainB (Cw l) (c.fields.drop m)=K)/\Below wr.heap.size wr w2/\Below w.heap.size w w2 /\
     w2.heap[w.heap.size]?=some (O11 (some ⟨g,0,none⟩) l.length h q s t))
    (fun j _=>c.fields.length-(intOf j).toNat)
   case atStart=>exact⟨0,Bd,rfl,a6,Vm _ _,C,hx⟩
   case round=>
    obtain⟨m,hm,rfl,L,N,D,B⟩:=hrel;have a7:=a5.kp (Kp.of_below (e:=none) N) Ck;have b9:=N.size;have b4:=D.size;have a8:=Bb B 0;have a9:=Bb B 1;simp at a8 a9;by_cases b5:m<c.fields.length
    ·obtain⟨g2,c3,d5,_,b0⟩:=Cf a7 Bd;obtain⟨t1,t2,t3⟩:=Gc c.fields m b5;have u0:=b0 (m*2) Bd;have u1:=b0 (m*2+1) Bd;rw[t1]at u0;rw[t2]at u1;have b6:c.fields.drop m=c.fields[m]::c.fields.drop (m+1):=Wr b5;have O:=Ba L;rw[b6,Rn]at O;generalize c4:c.fields[m].1=Q at *;generalize c5:c.fields[m].2=V at *;have mb:(m:Int)<(c.fields.length:Int):=Bd;clear b0 t1 t2 t3 c4 c5 b6 c0 d1 x0 Z a6;subst c3;have d6:=Pk B;cases F:Tr.plainB (Cw l) Q V with
     | true =>
      have v:Hid (Tr.allPlainB (Cw l) (c.fields.drop (m+1))=K):=by unfold Hid;rw[<- O,F];simp
      have HP:=Bc F;clear F O L;go_wp2
      go_region_held3 (fun f=>f.cell? ⟨w.heap.size,0,none⟩=some (.slice (some ⟨g,0,none⟩) l.length h)/\f.cell? ⟨w.heap.size,1,none⟩=some (.slice q s t)/\f.cell? ⟨g2,m*2,none⟩=some (.int .i64 Q)/\f.cell? ⟨g2,m*2+1,none⟩=some (.int .i64 V))
       (first|go_keep|(go_split_ands;refine⟨?_,?_,?_,?_⟩<;>(rw[z.cell Fm];assumption)))
       (first|(go_at_call 90;refine(show Calls prog _ _ _ _ from by have:=Yo (Cw l) (some ⟨g,0,none⟩) q h s t Q V wr.drew;rw[Kd]at this;exact this).mono ?_;rw[Ba HP];rintro e w3 ⟨rfl,z⟩))
      have b1:Below w.heap.size w w3:=D.drew.trans (z.mono b4);have c6:=N.drew.trans (z.mono b9);have c7:=stay z (show (wr.drew).heap[w.heap.size]?=_ from B);clear z D B N a7 u0 u1 a8 a9;go_wp2;go_roundw
      case rel=>exact⟨m+1,Bd,Lt,v,c6,b1,c7⟩
      case measure=>simp[intOf];omega
     | false =>
      have A:K=false:=by rw[<- O,F];simp
      have b:=Ba a0;rw[A,Sp rfl]at b;have J:r=7+(k:Int):=by rw[<- b];simp[Tr.badOf]
      have v:=Bc J;have HP:=Bc F;clear F O L A b J a0;go_wp2
      go_region_held3 (fun f=>f.cell? ⟨w.heap.size,0,none⟩=some (.slice (some ⟨g,0,none⟩) l.length h)/\f.cell? ⟨w.heap.size,1,none⟩=some (.slice q s t)/\f.cell? ⟨g2,m*2,none⟩=some (.int .i64 Q)/\f.cell? ⟨g2,m*2+1,none⟩=some (.int .i64 V))
       (first|go_keep|(go_split_ands;refine⟨?_,?_,?_,?_⟩<;>(rw[z.cell Fm];assumption)))
       (first|(go_at_call 90;refine(show Calls prog _ _ _ _ from by have:=Yo (Cw l) (some ⟨g,0,none⟩) q h s t Q V wr.drew;rw[Kd]at this;exact this).mono ?_;rw[Ba HP];rintro e w3 ⟨rfl,z⟩))
      have b1:Below w.heap.size w w3:=D.drew.trans (z.mono b4);clear z D B N a7 u0 u1 a8 a9;go_wp2;go_ret;exact⟨by rw[Ba v];rfl,b1⟩
    have A:K=true:=by rw[<- Ba L,Bvi Bd];rfl
    have b:=Ba a0;rw[A,Pf Fr]at b;have v:=Bc b;clear b A L a0 a6 C hx c0 d1 x0 Z;go_wp2;go_roundw
    case rel=>exact⟨k+1,Bd,Lt,v,D,B⟩
    case measure=>simp[intOf];omega
  have hf:r = -1:=by rw[<- Ba I,Bvi Fm];rfl
  have v:=Bc hf;clear hf;go_wp2;go_ret;exact⟨by rw[Ba v];rfl,C⟩
end Go.Proofs.YtpcgnjolfahacaaGreat
