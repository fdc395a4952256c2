/- the proof's parts -/
import Derived.Test.YtpcgnjolfahacaaGreatPk12
set_option maxRecDepth 100000
set_option maxHeartbeats 40000000
set_option linter.unusedVariables false
set_option linter.unusedSimpArgs false
set_option linter.defProp false
namespace Go.Proofs.YtpcgnjolfahacaaGreat
open Go.RowKit Go.Proofs.Tryz
def Ha (T:TI)(cl name:Int)(m:Rd.Mth):Prop:=m.cl≠255/\m.name=name/\Tr.rbel T cl m.cl=true
def Bjd{z:TI}{c B b e:Int}{q:TP}{k:Nat}:∀(l:List Rd.Mth) (i:Nat),Jg z c B b e q k i l=true->∀(t:Nat) (x:Rd.Mth),l[t]?=some x->Oe z c B b e q k (i+t) x=false
 | [],_,_,t,x,h=>by simp at h
 | m::l,i,h,t,x,hx=>by
  unfold Jg at h;by_cases g:Oe z c B b e q k i m=true;·rw[Sp g]at h;cases h
  rw[Pf g]at h;cases t with
  | zero =>
   obtain rfl:=Option.some.inj (show some m=some x from hx);simpa using g
  | succ t =>
   have:=Bjd l (i+1) h t x hx;rw[show i+(t+1)=i+1+t by omega];exact this
section
variable {E:Cr}{d:Cs}{ω:Int→Nat × Int}{o:Ca}{r:List Ca}{S:Bo}{ρ:Int→Int}{x y:Be}{op n:Int}
def Bab{k:Nat}(h:k<E.ms.length):E.ms[k]?=some (E.meth k):=by
 unfold Cr.meth;rw[Th,Ws h];rfl
def Bcj(c:E.Ok){k s:Nat}(e:k<E.ms.length)(f:s<E.ms.length)(h:(E.meth k).cl≠255):Oe E.T (E.meth k).cl (E.meth k).name (E.meth k).result.1 (E.meth k).result.2 (E.meth k).params k s (E.meth s)=false:=by
 have b:=c.hd k e;unfold Ip Rx at b
 split at b
 ·cases b
 split at b
 ·cases b
 split at b
 ·cases b
 have:=Bjd _ _ b s (E.meth s) (Bab f);rw[Bvp]at this;exact this
def Be0(m:E.Ok){c B:Int}{u k:Nat}(h:u<E.ms.length)(i:k<E.ms.length)(b:Ha E.T c B (E.meth u))(f:Ha E.T c B (E.meth k))(e:(E.meth u).cl=(E.meth k).cl):u=k:=by
 have l:∀{u k:Nat},u<E.ms.length->k<E.ms.length->Ha E.T c B (E.meth u)->Ha E.T c B (E.meth k)->(E.meth u).cl=(E.meth k).cl->¬u<k:=fun {u k} h i b f e g=>by
  have:=Bcj m i h f.1;unfold Oe at this;rw[Pf (by rw[b.2.1,f.2.1];simp),Pf b.1,Sp e]at this;simp at this;omega
 have:=l h i b f e;have:=l i h f b e.symm;omega
def Bon(b:E.Ok){c B:Int}(s:0<=c)(l:c<(E.T.length:Int)){u k:Nat}(h:u<E.ms.length)(m:k<E.ms.length)(f:Ha E.T c B (E.meth u))(i:Ha E.T c B (E.meth k))(e:(E.meth u).cl<=(E.meth k).cl):(E.meth u).params=(E.meth k).params/\(E.meth u).result=(E.meth k).result:=by
 by_cases g:(E.meth u).cl=(E.meth k).cl;·rw[Be0 b h m f i g];exact⟨rfl,rfl⟩
 have t:∀{u:Nat},u<E.ms.length->Ha E.T c B (E.meth u)->0<=(E.meth u).cl/\(E.meth u).cl<(E.T.length:Int):=fun h f=>Lr.1 ((b.k.mt _ (Cr.mem h)).cl.resolve_left f.1);obtain⟨p,A⟩:=t h f;obtain⟨q,v⟩:=t m i;have z:=(Bjt b.k.ok p q l ((Tr.rbel_iff b.k.ok s l q).1 i.2.2) e).1 ((Tr.rbel_iff b.k.ok s l p).1 f.2.2);have:=Bcj b m h i.1;unfold Oe at this;rw[Pf (by rw[f.2.1,i.2.1];simp),Pf f.1,Pf g,(Tr.rbel_iff b.k.ok q v p).2 z]at this;simp only[Bxn,Bxo,Bool.not_eq_false',Bwp]at this;exact⟨this.1,this.2⟩
def Xf{cl name:Int}:∀(l:List Rd.Mth) (i b:Nat),(∀t m,l[t]?=some m->E.meth (i+t)=m)->(∀m∈l,Ha E.T cl name m->m.cl<=(E.meth (Fd E cl name l i b)).cl)/\(E.meth b).cl<=(E.meth (Fd E cl name l i b)).cl/\(Fd E cl name l i b=b\/∃t m,l[t]?=some m/\Ha E.T cl name m/\Fd E cl name l i b=i+t)
 | [],i,b,_=>⟨Fr,Byo _,.inl rfl⟩
 | m::l,i,b,h=>by
  have A:∀t m,l[t]?=some m->E.meth (i+1+t)=m:=fun t z c=>by rw[show i+1+t=i+(t+1) by omega];exact h (t+1) z c
  have B:E.meth i=m:=h 0 m rfl;unfold Fd;by_cases g:m.cl≠255/\m.name=name/\Tr.rbel E.T cl m.cl=true/\(E.meth b).cl<m.cl
  ·rw[Sp g];obtain⟨p,j,f⟩:=Xf (cl:=cl) (name:=name) l (i+1) i A;rw[B]at j;refine⟨fun z c e=>?_,Bd,.inr ?_⟩
   ·rcases List.mem_cons.1 c with rfl|c
    ·exact j
    exact p z c e
   rcases f with f|⟨t,z,q,s,v⟩
   ·exact⟨0,m,rfl,⟨g.1,g.2.1,g.2.2.1⟩,f⟩
   exact⟨t+1,z,q,s,by rw[v];omega⟩
  rw[Pf g];obtain⟨p,j,f⟩:=Xf (cl:=cl) (name:=name) l (i+1) b A;refine⟨fun z c e=>?_,j,f.imp id ?_⟩
  ·rcases List.mem_cons.1 c with rfl|c
   ·have:¬(E.meth b).cl<z.cl:=fun k=>g ⟨e.1,e.2.1,e.2.2,k⟩;omega
   exact p z c e
  rintro ⟨t,z,q,s,v⟩;exact⟨t+1,z,q,s,by rw[v];omega⟩
def Xi{z:TI}{c B:Int}:∀(l:List Rd.Mth) (i s f:Int),(∀m∈l,(m.name==B&&Tr.within z c m.cl)=true<->Ha z c B m) ->
  (Hl z c B l i s f=s/\∀m∈l,Ha z c B m->m.cl<f)\/∃(t:Nat) (m:Rd.Mth),l[t]?=some m/\Ha z c B m/\Hl z c B l i s f=i+(t:Int)/\f<=m.cl/\∀e∈l,Ha z c B e->e.cl<=m.cl
 | [],_,_,_,_=>.inl ⟨rfl,Fr⟩
 | m::l,i,s,f,h=>by
  have I:∀e∈l,(e.name==B&&Tr.within z c e.cl)=true<->Ha z c B e:=fun e v=>h e (by simp[v]);have L:=h m Fr;have J:(m.name==B&&(decide (f<=m.cl)&&Tr.within z c m.cl))=true<->Ha z c B m/\f<=m.cl:=by
   rw[<- L];simp only[Bwk,Bwp]
   constructor
   ·exact fun k=>⟨⟨k.1,k.2.2⟩,k.2.1⟩
   exact fun k=>⟨k.1.1,k.2,k.1.2⟩
  unfold Hl;by_cases g:Ha z c B m/\f<=m.cl
  ·rw[Sp (J.2 g)]
   right
   rcases Xi l (i+1) i m.cl I with ⟨a,b⟩|⟨t,e,A,C,D,F,G⟩
   ·refine⟨0,m,rfl,g.1,by rw[a];simp,g.2,fun e v p=>?_⟩;rcases List.mem_cons.1 v with rfl|v
    ·exact Byo _
    have:=b e v p;omega
   refine⟨t+1,e,A,C,by rw[D];push_cast;omega,Bd,fun u j p=>?_⟩;rcases List.mem_cons.1 j with rfl|j
   ·exact F
   exact G u j p
  rw[Pf (fun k=>g (J.1 k))];have K:Ha z c B m->m.cl<f:=fun k=>by
   have:¬f<=m.cl:=fun q=>g ⟨k,q⟩;omega
  rcases Xi l (i+1) s f I with ⟨a,b⟩|⟨t,e,A,C,D,F,G⟩
  ·refine .inl ⟨a,fun u j p=>?_⟩;rcases List.mem_cons.1 j with rfl|j
   ·exact K p
   exact b u j p
  refine .inr ⟨t+1,e,A,C,by rw[D];push_cast;omega,F,fun u j p=>?_⟩;rcases List.mem_cons.1 j with rfl|j
  ·have:=K p;omega
  exact G u j p
def Btv(c:E.Ok){k:Nat}(i:k<E.ms.length){cl:Int}(v:0<=cl)(z:cl<(E.T.length:Int))(j:Ha E.T cl (E.meth k).name (E.meth k)):∃b,Fd E cl (E.meth k).name E.ms 0 k=b/\E.M.nearest cl (E.meth k).name=(b:Int)/\b<E.ms.length/\Ha E.T cl (E.meth k).name (E.meth b)/\(E.meth k).params=(E.meth b).params/\(E.meth k).result=(E.meth b).result:=by
 obtain⟨F,G,A⟩:=Xf (E:=E) (cl:=cl) (name:=(E.meth k).name) E.ms 0 k (fun t m h=>by
  rw[Bvp];unfold Cr.meth;rw[Th,h];rfl)
 obtain⟨l,p⟩:Fd E cl (E.meth k).name E.ms 0 k<E.ms.length/\Ha E.T cl (E.meth k).name (E.meth (Fd E cl (E.meth k).name E.ms 0 k)):=by
  rcases A with A|⟨t,m,e,s,B⟩
  ·rw[A];exact⟨i,j⟩
  have f:=(List.getElem?_eq_some_iff.1 e).1;rw[B,Bvp];rw[Bab f]at e;obtain rfl:=Option.some.inj e;exact⟨f,s⟩
 generalize Fd E cl (E.meth k).name E.ms 0 k=b at *;obtain⟨I,J⟩:=Bon c v z i l j p G;refine⟨b,rfl,?_,l,p,I,J⟩;have O:(E.T.length:Int)<=13:=by
  have C:=Ix E.cs;have D:=c.k.l6;show ((Tr.tree E.cs).length:Int)<=13;omega
 have K:∀m∈E.ms,(m.name==(E.meth k).name&&Tr.within E.T cl m.cl)=true<->Ha E.T cl (E.meth k).name m:=fun m L=>by
  simp only[Bwk,By9];by_cases g:m.cl=255;·rw[g,Bdp c.k.ok v z Bd];exact⟨fun q=>absurd q.2 Fr,fun q=>absurd g q.1⟩
  rw[U9 c.k.ok v z (Lr.1 ((c.k.mt _ L).cl.resolve_left g)).1];exact⟨fun q=>⟨g,q.1,q.2⟩,fun q=>⟨q.2.1,q.2.2⟩⟩
 unfold Ds.nearest;show Hl E.T cl (E.meth k).name E.ms 0 0 0=(b:Int);rcases Xi E.ms 0 0 0 K with ⟨_,q⟩|⟨t,m,e,s,B,Q,N⟩
 ·have C:=q _ (Cr.mem i) j;have D:=(Lr.1 ((c.k.mt _ (Cr.mem i)).cl.resolve_left j.1)).1;omega
 have f:=(List.getElem?_eq_some_iff.1 e).1;rw[Bab f]at e;obtain rfl:=Option.some.inj e;have C:=F _ (Cr.mem f) s;have D:=N _ (Cr.mem l) p;rw[B,Be0 c f l s p Bd];omega
def Bre(h:Cz E d ω o r S ρ x y 21 n):Gi E d o r 21 n (Ci E.M 21 n S):=by
 obtain⟨xs,s,a,f,F,V,G,z⟩:=h.gen Bd;obtain⟨Y,n1⟩:=h.num.mth (.inr rfl);have Z:=h.num.own rfl;obtain⟨k,rfl⟩:∃k:Nat,n=(k:Int):=⟨n.toNat,Bd⟩;have i:k<E.ms.length:=Bd;have I:(E.meth k).cl≠255:=Z;have et:Cu (Cq E.cs) E.ms (E.meth o.m).result 21 (k:Int)=(3,(E.meth k).cl)::(E.meth k).params:=rfl;have el:Fg (Cq E.cs) E.ms 21 (k:Int)=Ei (E.meth k).result:=rfl;rw[et]at G;rw[el]at F;obtain⟨v,c,rfl,hv,J⟩:∃v c,a=v::c/\Ez E.T d.ts ω r.length ρ (Hq (E.meth o.m)) v (3,(E.meth k).cl)/\Cj (Ez E.T d.ts ω r.length ρ (Hq (E.meth o.m))) c (E.meth k).params:=by
  cases G using Cj.el with
  | cons p q=>exact⟨_,_,rfl,p,q⟩
 obtain⟨p1,p2,p3,p4⟩:=Yn (E.meth k).params.length h.s.now (s:=s++[v]) (a:=c) (by rw[f];simp) J.len;obtain⟨q1,q2,q3,q4⟩:=Pt p2 rfl;have l:Jd E d ⟨o.m,o.p,o.lo,s⟩ r (S.withNow (Bw (D6 (E.meth k).params.length S.now).2).2):=⟨h.s.read,h.s.objs,q2,h.s.wait,h.s.en,h.s.out,h.s.steps⟩;have A:(S.withNow (Bw (D6 (E.meth k).params.length S.now).2).2).now.pos=o.p:=(q3.trans p3).trans h.pos;have a0:(S.withNow (Bw (D6 (E.meth k).params.length S.now).2).2).now.next=Ch E o:=(q4.trans p4).trans h.nx
 have e1:Ci E.M 21 (k:Int) S=Pm E.M (E.meth k).name v.2 (c.map Prod.snd) (S.withNow (Bw (D6 (E.meth k).params.length S.now).2).2):=by
  show Sj E.M (k:Int) S=_;unfold Sj;rw[X7 i];unfold I8;rw[p1];show Pm E.M (E.meth k).name (Bw (D6 (E.meth k).params.length S.now).2).1 _ _=_;rw[q1];rfl
 rw[e1];unfold Pm;by_cases g:v.2=0;·rw[Sp g];exact h.fault (k:=2) f z l A Bd Bd (by unfold Dn;simp[g])
 rw[Pf g];obtain⟨j,rfl,j0,jl,K,ja⟩:=Zx hv (h.ws v (by rw[f];simp)) g;obtain⟨B,C⟩:=h.g.hp.Cl _ K;have a1:=Lr.1 ((h.ok.k.mt _ (Cr.mem i)).cl.resolve_left I);obtain⟨b,b1,b2,L,D,b5,b6⟩:=Btv h.ok i B C ⟨I,rfl,(Tr.rbel_iff h.ok.k.ok B C a1.1).2 ja⟩;have a2:=Lr.1 ((h.ok.k.mt _ (Cr.mem L)).cl.resolve_left D.1);have eo:Id ((2,(j:Int)):Int×Int).2 (S.withNow (Bw (D6 (E.meth k).params.length S.now).2).2).objs=(Cc d.ts (j:Int)).cl:=by
  rw[l.objs];exact Blf Bd Bd
 rw[eo,b2];have a3:Cj (Ez E.T d.ts ω r.length ρ (Hq (E.meth o.m))) ((2,(j:Int))::c) (Kv (E.meth b).cl (E.meth b).params):=by
  unfold Kv;rw[Pf D.1,<- b5];exact .cons ⟨fun e=>absurd e Fr,fun e=>absurd e Fr,fun _=>⟨rfl,.inr ⟨K,Tr.fits_ref.2 ((Tr.rbel_iff h.ok.k.ok B C a2.1).1 D.2.2)⟩⟩,fun e=>absurd e Fr⟩ J
 obtain⟨a4,hB⟩:=h.opens L f (by rw[<- b6];exact F) rfl V a3 l A a0;have N:(S.wait.length:Int)+1=(d.os.length:Int):=by
  have:=h.s.wait.len;rw[h.g.os];simp only[Bzk]at this;simp;omega
 have g':¬(j:Int)=0:=g;have O:Px E (d.top ⟨o.m,o.p,o.lo,s⟩ r) (k:Int) (Cg ((2,(j:Int))::c)).2=b:=b1;unfold Hz;by_cases t:E.depth<=(d.os.length:Int);·rw[Sp (show E.M.depth<=((S.withNow _).wait.length:Int)+1 by show E.depth<=(S.wait.length:Int)+1;rw[N];exact t)];exact h.fault (k:=5) f z l A Bd Bd (by unfold Dn;simp[t];omega)
 rw[Pf (show ¬E.M.depth<=((S.withNow _).wait.length:Int)+1 by show ¬E.depth<=(S.wait.length:Int)+1;rw[N];exact t)];have Q:=Bp.send (E:=E) (d:=d.top ⟨o.m,o.p,o.lo,s⟩ r) (o:=⟨o.m,o.p,o.lo,s⟩) (r:=r) (op:=21) (n:=(k:Int)) (a:=(2,(j:Int))::c) rfl Y i Fr Fr (by show (j:Int)<(d.ts.length:Int);omega) (by rw[O];exact a4);rw[O]at Q;exact⟨_,⟨s,_,f,z,.inr ⟨by unfold Dn;simp[t];omega,Q⟩⟩,hB⟩
def Cz.act(h:Cz E d ω o r S ρ x y op n){n':Int}(c:Cd.wd op=2->n'=n)(e:0<=op)(f:op<=25):Gi E d o r op n (Ci E.M op n' S):=by
 have b:op=0\/op=2\/op=3\/(11<=op/\op<=21)->n'=n:=fun g=>c (by unfold Cd.wd;rw[Sp g]);by_cases g:7<=op/\op<=10;·exact Biz h g n'
 by_cases g2:12<=op/\op<=14;·rw[b Bd];exact Bi0 h g2
 have:op=0\/op=1\/op=2\/op=3\/op=4\/op=5\/op=6\/op=11\/op=15\/op=16\/op=17\/op=18\/op=19\/op=20\/op=21\/op=22\/op=23\/op=24\/op=25:=Bd;rcases this with rfl|rfl|rfl|rfl|rfl|rfl|rfl|rfl|rfl|rfl|rfl|rfl|rfl|rfl|rfl|rfl|rfl|rfl|rfl
 ·rw[b Bd];exact Boy h
 ·exact Brf h _
 ·rw[b Bd];exact Bri h
 ·rw[b Bd];exact Box h
 ·exact Btd h _
 ·exact Bth h _
 ·exact Brd h _
 ·rw[b Bd];exact Brj h
 ·rw[b Bd];exact Btf h
 ·rw[b Bd];exact Brk h
 ·rw[b Bd];exact Btg h
 ·rw[b Bd];exact Btc h
 ·rw[b Bd];exact Brl h
 ·rw[b Bd];exact Brm h
 ·rw[b Bd];exact Bre h
 ·exact Btb h _
 ·exact Bow h _
 ·exact But h _
 exact Bte h _
def Bml(c:E.Ok)(g:Vq E d ω o r)(s:Jd E d o r S)(nx:S.now.next=o.p):∃d',Gh E d d'/\He E d' (Hh E.M S):=by
 obtain⟨ρ,x,j,ty⟩:=g.top.ty;have C:=Cr.mem g.top.m;have G:=c.k.mt _ C;have e:=g.top.p;have f:=Ur e;obtain⟨D,F⟩:=N2 G.unread o.p e;have I:Fy E.M S.now=Cd.insAt (E.meth o.m).code o.p:=by
  unfold Fy Cd.one;rw[s.now.m,X7 g.top.m,nx,Sp ⟨f,D,F⟩];rfl
 have O:(E.meth o.m).code.getD o.p 0∈(E.meth o.m).code:=Hu f;obtain⟨y,Q⟩:=((c.sol C).sat o.p e x j).rl;have J:Fn E.cs E.ms (E.meth o.m) o.p x=some y:=Q;unfold Fn Gt at J;obtain⟨z,V,h⟩:=Option.bind_eq_some_iff.1 J;by_cases b:(z.stack.length:Int)<=(E.meth o.m).stack
 ·rw[Sp b]at h;obtain rfl:=Option.some.inj h;have Y:Cz E ⟨d.os,d.ts,d.made,d.read,d.out,d.steps+1,d.status,d.value⟩ ω o r (Oc E.M S) ρ x z ((E.meth o.m).code.getD o.p 0) (Cd.atI (E.meth o.m).code ((o.p:Int)+1)) :=
   ⟨c,⟨g.os,g.st,g.hp,g.md,g.ws,g.top⟩,⟨s.read,s.objs,s.now.moved _ _,s.wait,s.en,s.out,by show S.steps+1=_;rw[s.steps]⟩,nx,by show (Fy E.M S.now).place.toNat+Cd.wd (Fy E.M S.now).op=_;rw[I];rfl,j,ty,rfl,rfl,V,b⟩
  obtain⟨d',⟨K,a,l,L,Z⟩,hB⟩:=Y.act (n':=(Cd.insAt (E.meth o.m).code o.p).n) (fun h2=>(W3 F h2).1) (G.bd.code0 _ O) D;refine⟨d',?_,by unfold Hh;rw[I];exact hB⟩;have N:∀v∈a,It d.ts.length v:=fun v hv=>(g.ws o Fr).2 v (by rw[l];simp[hv]);rcases Z with ⟨t,t0,tl,th,rfl⟩|⟨h0,hD⟩
  ·refine .thrown o r K a t g.os g.top.m f l L N t0 tl th (fun q A=>?_);rcases List.mem_cons.1 A with rfl|A
   ·exact⟨g.top.m,fun B=>Rs.room c (i:=r.length) ⟨g.top.m,e,ρ,x,j,ty.lo⟩ B⟩
   obtain⟨i,b⟩:=g.top.w.stood q A;exact⟨b.m,fun B=>b.room c B⟩
  exact .does o r K a d' g.os g.top.m f l L N h0 hD
 rw[Pf b]at h;cases h
def Cj.mem{α β:Type}{R:α->β->Prop}{l:List α}{r:List β}(h:Cj R l r):∀a∈l,∃b,R a b:=by
 induction h using Cj.el with
 | nil=>simp
 | cons x _ ih =>
  intro z c;rcases List.mem_cons.1 c with rfl|c
  ·exact⟨_,x⟩
  exact ih z c
def Bun(g:Vq E d ω o r)(s:Jd E d o r S)(f:Fl E.M S)(z:S.steps<=3000)(A:S.out.length<=S.steps):Wl E d:=by
 have t:=s.wait.len;rw[Bzk]at t;have B:=f.wt;have j:=f.ob;rw[s.objs]at j;simp at j;have C:=g.md;refine⟨by rw[g.os];simp;omega,fun q b=>?_,fun q D e=>?_,Bd,Bd,by rw[<- s.out];omega,by rw[<- s.steps];omega⟩
 ·rw[g.os]at b;rcases List.mem_cons.1 b with rfl|b
  ·have:=s.now.h;have:=s.now.wf.h;exact⟨g.top.m,Bd⟩
  obtain⟨i,v⟩:=g.top.w.stood q b;obtain⟨c,l⟩:=s.wait.mem q b;have:=l.1.h;have:=l.1.wf.h;exact⟨v.m,Bd⟩
 rw[g.os]at e;obtain⟨rfl,-⟩:=List.cons.inj e;exact g.top.p
def Bf4(i:E.Ok)(j:E.M.Small)(h:Nat)(l:h<=3000):∀(k:Nat) {d:Cs}{S:Bo},He E d S->Fl E.M S->S.out.length<=S.steps->S.steps<=h->h+2<=k+S.steps->∃e,Gm E h d e/\(P8 E.M h k S).out=e.out/\(P8 E.M h k S).status=e.status/\(P8 E.M h k S).value=e.value/\(P8 E.M h k S).steps=e.steps
 | 0,_,_,_,_,_,h1,h2=>Bd
 | k+1,d,S,hB,hb,ho,h1,h2=>by
  unfold P8;cases hB using He.el with
  | off a b c e f g =>
   rw[Sp a];exact⟨d,.done d b,f,c,e,g⟩
  | on ω o r G H nx =>
   rw[Pf (by rw[H.en];simp)];by_cases g:h<=S.steps;·rw[Sp g];exact⟨_,.out d G.st.1 (by rw[<- H.steps];exact g),H.out,rfl,G.st.2.symm,H.steps⟩
   rw[Pf g];obtain⟨d',m,p⟩:=Bml i G H nx;obtain⟨q,s,-⟩:=Um E.M S;have t:(Hh E.M S).out.length<=(Hh E.M S).steps:=by
    rcases s with e|⟨v,e⟩<;>rw[e,q]
    ·omega
    simp;omega
   obtain⟨e,z,A⟩:=Bf4 i j h l k p (Bi7 j hb) t Bd Bd;exact⟨e,.step d d' e G.st.1 (by rw[<- H.steps];omega) (Bun G H hb Bd ho) m z,A⟩
end
def Be4{z:TI}(b:List Rd.Cls)(c:Int):∀d:Nat,d<=7->Rf.allTo z (Rf.given++b) c d=[]
 | 0,_=>rfl
 | d+1,h=>by
  rw[Rf.allTo,Be4 b c d Bd,Pd b d Bd]
  split<;>rfl
def Bha{k:Nat}(h:k<6):k=0/\Cc N9 (k:Int)=Baf\/1<=k/\Cc N9 (k:Int)=⟨(k:Int)+1,true,[]⟩:=by
 have:k=0\/k=1\/k=2\/k=3\/k=4\/k=5:=Bd;rcases this with rfl|rfl|rfl|rfl|rfl|rfl
 ·exact .inl ⟨rfl,rfl⟩
 all_goals exact .inr ⟨Bd,rfl⟩
section
variable {E:Cr}
def Bci:Ky E N9 (fun _=>(0,0)):=by
 have g:E.T.length=7+E.cs.length:=Ix E.cs;refine⟨Wf 6,fun k h i=>?_,rfl,fun k j c=>?_,fun k c e=>?_,fun k c e=>?_,fun k c v f=>?_⟩
 ·rw[Bj5 (show k<N9.length from (by show k<6;omega))];rcases Bha (show k<6 by omega) with ⟨a,_⟩|⟨_,b⟩
  ·omega
  rw[b]
 all_goals rcases Bha c with ⟨a,b⟩|⟨a,b⟩
 all_goals have l:k<6:=c
 ·omega
 ·rw[b];show 0<=(k:Int)+1/\(k:Int)+1<_;omega
 ·rw[b]at e;cases e
 ·rw[b];show Cj _ [] (Rf.all E.T (Rf.given++E.cs) ((k:Int)+1).toNat);unfold Rf.all;rw[Be4 _ _ _ Bd];exact .nil
 ·rw[b];rfl
 ·rw[b]at e;cases e
 ·rw[b]at f;cases f
 rw[b]at f;cases f
def Bj9(c:E.Ok){k:Nat}(b:k<E.ms.length)(e:(E.meth k).cl=255)(f:(E.meth k).params=[]):He E (Zb E k) (Gv (k:Int)):=by
 have g:Kv (E.meth k).cl (E.meth k).params=[]:=by unfold Kv;rw[Sp e,f];rfl
 obtain⟨h,j,l⟩:=Bhc (ω:=fun _=>(0,0)) (ρ:=id) c (Bci (E:=E)).Cl b (i:=0) 0 (ar:=id) (a:=[]) (by rw[g];exact .nil);obtain⟨m,p⟩:=Bi8 E k [] h (c.k.mt _ (Cr.mem b)).rd.lo.2;refine .on _ (Hv E k []) [] ⟨rfl,⟨rfl,rfl⟩,Bci,rfl,fun z q=>?_,⟨b,j,l,.nil _⟩⟩ ⟨rfl,rfl,m,.nil,rfl,rfl,rfl⟩ p;obtain rfl:=List.mem_singleton.1 q;refine⟨fun v s=>?_,by simp[Hv]⟩;rw[(List.mem_replicate.1 (show v∈List.replicate _ _ from s)).2];exact .inl rfl
def Cr.Ok.small(c:E.Ok)(f:E.heap<=30)(g:E.depth<=12):E.M.Small:=by
 have i:∀n,E.M.meth n=Eu\/E.M.meth n∈E.ms:=fun n=>by
  by_cases h:0<=n/\n.toNat<E.ms.length
  ·right
   have:=X7 (E:=E) h.2;rw[Bwo h.1]at this;rw[this];exact Cr.mem h.2
  left
  have e:E.M.ms=E.ms:=rfl;unfold Ds.meth;rw[e]
  split
  ·rfl
  rw[Sp Bd]
 refine⟨fun n x b=>?_,fun n=>?_,fun n x b=>?_,f,g⟩
 all_goals rcases i n with e|e
 ·rw[e]at b;cases b
 ·exact⟨(c.k.mt _ e).bd.code0 x b,(c.k.mt _ e).rd.c255 x b⟩
 ·rw[e];simp[Eu]
 ·have:=(c.k.mt _ e).bd.code;omega
 ·rw[e]at b;cases b
 have j:=Pu (Bg6 ((c.k.mt _ e).hnd x b)).1;have:=(c.k.mt _ e).bd.code;omega
def Bm0(i:E.Ok)(j:E.heap<=30)(l:E.depth<=12)(f:Nat)(m:f<=3000){k:Nat}(p:k<E.ms.length)(q:(E.meth k).cl=255)(s:(E.meth k).params=[]):∃e,Gm E f (Zb E k) e/\Wp (Rj E.M f (k:Int))=⟨e.out,e.status,e.value,(e.steps:Int),0⟩:=by
 obtain⟨e,h,a,b,c,g⟩:=Bf4 i (i.small j l) f m (f+2) (Bj9 i p q s) (Bf2 _ _) (Wf _) (Bv5 _) (Wf _);refine⟨e,h,?_⟩;unfold Wp Rj;rw[a,b,c,g]
end
def Br9{w:TW}{u:Nat}{a:TA}{c:Nat}{l:List Rd.Hnd}(h:Kz w u (.s a l.length c) l){j:Nat}(m:j<l.length):∃g,a=some ⟨g,0,none⟩/\g<w.heap.size/\w.C g (j*4) (.i l[j].frm)/\w.C g (j*4+1) (.i l[j].til)/\w.C g (j*4+2) (.i l[j].target)/\w.C g (j*4+3) (.i l[j].cl):=by
 obtain⟨g,t,v,_,z⟩:=Cf h Bd;have e:=fun f p=>(z _ (De l j m f p).2).trans (De l j m f p).1;exact⟨g,t,v,e 0 Bd,e 1 Bd,e 2 Bd,e 3 Bd⟩
def Bpf{k:Db}{M:Br}{X:List Rw}{w:TW}{o:Ca}{lv sv:TX}{r:List (Ca×Value×Value)}{u:Nat}(h:Bm k M X w)(b:M.os=(o,lv,sv)::r)(c:M.oa=some ⟨u,0,none⟩):Bm k (M.put ((⟨o.m,o.p,o.lo,[]⟩,lv,.s none 0 0)::r)) X (w.setCell (.a u (r.length*4+3)) (.s none 0 0)):=by
 obtain⟨f,j,l,q,t,v,z,A,B,C,D,F,G,I⟩:=M;simp only at b c;subst b c;have e:=Own.nil (i:=5) h Hd 240 2;exact Own.cellE (i:=1) e Hd (Ww (o,lv,sv) (⟨o.m,o.p,o.lo,[]⟩,lv,.s none 0 0) r 3 (.s none 0 0) rfl)
def Zc (w:TW)(a:Addr):Nat:=match w.cell? a with
 | some (.slice _ n _)=>n
 | _=>0
def Bjx(k:Db)(M:Br)(X:List Rw)(t:Nat)(w:TW)(ok:k.Ok)(h:Bm k M X w)(ht:t<M.ts.length)(d5:M.os.length<=1000)(tl:Int)(d6:M.ts[t].1.cl=tl)(d8:∀x∈M.os,x.1.m<k.f.ms.length/\(Gz k.E.T tl x.1.p (k.E.meth x.1.m).handlers≠none->1<=(k.E.meth x.1.m).stack)):Calls prog 102 #[.q k.B 0,.i (t:Int)] w fun e b=>e=.r (.tuple #[])/\∃M',Bm k M' X b/\M'.d=Ga k.E (t:Int) tl M.d (M.os.map Prod.fst):=by
 generalize hR:Ga k.E (t:Int) tl M.d (M.os.map Prod.fst)=R;have d9:=Bc (fun (_:Unit)=>hR);have HT:=Bc (fun (_:Unit)=>d6);have HA:=Bc d8;have j6:(t:Int)<(M.ts.length:Int):=Bd;clear hR d6 d8;go_in;go_wp2
 go_loopw [4] (fun _ wr=>∃l:List (Ca×Value×Value),l.length<=1000/\(∀x∈l,x∈M.os)/\Hid (Bm k (M.put l) X wr)/\Hid (Ga k.E (t:Int) tl M.d (l.map Prod.fst)=R))
  (fun _ wr=>Zc wr ⟨k.B,7,none⟩)
 case atStart=>exact⟨M.os,d5,fun _ h=>h,h,Ba d9 ()⟩
 case round=>
  clear h d9 d5;obtain⟨l,hl,f0,H,HR⟩:=hrel;have h:=Ba H;cases l with
  | nil =>
   have F:wr.C k.B 7 (.s M.oa 0 M.oc):=h.cell Hd;have j7:wr.C k.B 13 (.i M.status):=h.cell Hd;have j8:=h.fz 13;have f2:=Own.cell (i:=0) h Hd 13 (.i 2);have h1:Bm k ((M.put []).fin 2 M.value) X (wr.setCell (.a k.B 13) (.i 2)):=f2;obtain⟨g,hg,b7,a6,_⟩:=Sl h1 (show t<((M.put []).fin 2 M.value).ts.length from ht);have c8:(wr.setCell (.a k.B 13) (.i 2)).C k.B 8 (.s (.p g) M.ts.length M.tc):=h1.sl hg Hd;have g0:(wr.setCell (.a k.B 13) (.i 2)).C g (t*3) (.i tl):=by rw[<- Ba HT ()];exact a6 0 _ rfl
   have j9:(wr.setCell (.a k.B 13) (.i 2)).C k.B 14 (.i M.value):=h1.cell Hd;have k2:=h1.fz 14;have f4:=Own.cell (i:=0) h1 Hd 14 (.i tl);have h2:Bm k ((M.put []).fin 2 tl) X ((wr.setCell (.a k.B 13) (.i 2)).setCell (.a k.B 14) (.i tl)):=f4;have H2:=Bc h2;clear h h1 h2 f2 f4 a6 hg;go_wp2;go_end0;exact⟨rfl,_,Ba H2,by rw[<- Ba HR];rfl⟩
  | cons x r =>
   obtain⟨o,lv,sv⟩:=x;simp only[Bvo]at hl;obtain⟨hm,b3⟩:=Ba HA _ (f0 _ (Bv1 ..));simp only at hm b3;obtain⟨g,hg,b7,F,c0,c1,-,-,-⟩:=Jn h rfl;have F:wr.C k.B 7 (.s (.p g) (r.length+1) M.oc):=F;obtain⟨ym,c,b8,L,f5,b9⟩:=RFl.mth (h.fok ok.f) hm;have b1:wr.C k.B 1 (.s (.p c) k.f.ms.length k.f.c2):=h.sl b8 Hd;have lB:=h.ltB;have c4:=ok.meth hm;have i4:=Bc (fun (_:Unit)=>F);have HH:=Bc b9.hs;have f6:=b9.hl;have i5:k.f.a2=some ⟨c,0,none⟩:=b8;obtain⟨cl,nm,pa,pl,pc,r1,r2,lo,st,a0,ha,k3,hc,ma,ml,mc,a3,a4⟩:=ym;simp only at f6;subst f6;have c5:=Ua f5;simp only at c5 HH;have f8:∀y∈k.f.ms[o.m].1.m.handlers,0<=y.target:=fun y hy=>(Pu (Bg6 ((ok.fm.mt _ (by rw[<- ok.eq];exact Bwa (Bvh hm))).hnd y hy)).1).1;have k4:k.f.ms[o.m].1.m.handlers.length<=1000:=by
    have:=(ok.fm.mt _ (show k.f.ms[o.m].1.m∈k.ms by rw[<- ok.eq];exact Bwa (Bvh hm))).bd.hs;omega
   rw[c4]at b3;have G:=Ba HR;rw[Bwm,Ga]at G;simp only at G;rw[c4]at G;generalize i6:k.f.ms[o.m].1.m.handlers=A at *;have HB:=Bc f8;have f9:=Bc b3;have b4:=Bc G;clear f5 b9 i6 b8 G b3 f8 c4;generalize a5:r.length=v at *;have hS:∀b,Bl wr b->b.C k.B 7 (.s (.p g) (v+1) M.oc)/\b.C k.B 1 (.s (.p c) k.f.ms.length k.f.c2)/\b.C g (v*4) (.i (o.m:Int))/\b.C c (o.m*12) (.i cl)/\b.C c (o.m*12+1) (.i nm)/\b.C c (o.m*12+2) (.s pa pl pc)/\b.C c (o.m*12+3) (.i r1)/\b.C c (o.m*12+4) (.i r2)/\b.C c (o.m*12+5) (.i lo)/\b.C c (o.m*12+6) (.i st)/\b.C c (o.m*12+7) (.string a0)/\b.C c (o.m*12+8) (.s ha A.length hc)/\b.C c (o.m*12+9) (.s ma ml mc)/\b.C c (o.m*12+10) (.i a3)/\b.C c (o.m*12+11) (.i a4):=fun b D=>by
    obtain⟨q0,q1,q2,q3,q4,q5,q6,q7,q8,q9,qa,qb⟩:=c5;exact⟨QC D lB F,QC D lB b1,QC D b7 c0,QC D L q0,QC D L q1,QC D L q2,QC D L q3,QC D L q4,QC D L q5,QC D L q6,QC D L q7,QC D L q8,QC D L q9,QC D L qa,QC D L qb⟩
   have k5:IntKind.i64.wrap (((v+1:Nat):Int)-1)=(v:Int):=by rw[show ((v+1:Nat):Int)-1=(v:Int) by omega];exact Eg _ Bd Bd
   have ri:(v:Int)<(v:Int)+1:=Bd;have mi:(o.m:Int)<(k.f.ms.length:Int):=Bd;have kb:(0:Int)<((v+1:Nat):Int):=Bd;have a7:Bl wr (wr.alloc (O12 cl nm pa pl pc r1 r2 lo st a0 ha A.length hc ma ml mc a3 a4)).drew:=(QN _).drew;clear c5;go_wp2
   go_region_held3 (fun b=>b.C k.B 7 (.s (.p g) (v+1) M.oc)/\b.C k.B 1 (.s (.p c) k.f.ms.length k.f.c2)/\b.C g (v*4) (.i (o.m:Int))/\b.C c (o.m*12) (.i cl)/\b.C c (o.m*12+1) (.i nm)/\b.C c (o.m*12+2) (.s pa pl pc)/\b.C c (o.m*12+3) (.i r1)/\b.C c (o.m*12+4) (.i r2)/\b.C c (o.m*12+5) (.i lo)/\b.C c (o.m*12+6) (.i st)/\b.C c (o.m*12+7) (.string a0)/\b.C c (o.m*12+8) (.s ha A.length hc)/\b.C c (o.m*12+9) (.s ma ml mc)/\b.C c (o.m*12+10) (.i a3)/\b.C c (o.m*12+11) (.i a4))
    (first|with_reducible exact hS _ (Vm _ _).drew|with_reducible exact hS _ (QN _).drew)
    (fail)
   have g3:=h.below a7;have CM:=Bf wr (O12 cl nm pa pl pc r1 r2 lo st a0 ha A.length hc ma ml mc a3 a4);have g4:(wr.alloc (O12 cl nm pa pl pc r1 r2 lo st a0 ha A.length hc ma ml mc a3 a4)).drew.heap[wr.heap.size]?=some (O12 cl nm pa pl pc r1 r2 lo st a0 ha A.length hc ma ml mc a3 a4):=CM;have d7:=(a7.cell (p:=.a k.B 7) lB).trans F;have d1:=(a7.cell (p:=.a g (v*4+1)) b7).trans c1;have i7:=Bc (fun (b:TW) (D:Bl (wr.alloc (O12 cl nm pa pl pc r1 r2 lo st a0 ha A.length hc ma ml mc a3 a4)).drew b)=>Kz.kp (Ba HH) (Kp.of_below (e:=none) (QB a7 D)) Ck);have H1:=Bc g3;clear hS F c0 c1 b1 a7 CM HH H h g3;generalize (wr.alloc (O12 cl nm pa pl pc r1 r2 lo st a0 ha A.length hc ma ml mc a3 a4)).drew=w1 at *;generalize k6:wr.heap.size=mb at *;have m8:w1.C mb 8 (.s ha A.length hc):=(Bb g4 8).trans rfl;obtain⟨Z,hZ⟩:∃Z,Gz k.E.T tl o.p A=Z:=⟨_,rfl⟩;have HZ:Hid (Gz k.E.T tl o.p (A.drop 0)=Z):=hZ;have a8:=Bc (fun (_:Unit)=>hZ);clear hZ;go_wp2
   go_loopw [7] (fun i wq=>∃j:Nat,j<=A.length/\i=.i (j:Int)/\Hid (Gz k.E.T tl o.p (A.drop j)=Z)/\Bl w1 wq)
    (fun i _=>A.length-(intOf i).toNat)
   case atStart=>exact⟨0,Bd,rfl,HZ,Vm _ _⟩
   case round=>
    obtain⟨j,hj,rfl,HZ,hB⟩:=hrel;have N:=(Ba H1).below hB;have g5:=Pk g4;have e8:=(hB.cell (p:=.a mb 8) g5).trans m8;by_cases c6:j<A.length
    ·obtain⟨gh,rfl,i8,y0,y1,y2,y3⟩:=Br9 (Ba i7 _ hB) c6;have hz:=Ba HZ;rw[Wr c6,Gz]at hz;have h0:=Ba HB _ (Bvh c6);obtain⟨gt,g6,c9,a6,_⟩:=Sl N (show t<(M.put ((o,lv,sv)::r)).ts.length from ht);have c8:wr.C k.B 8 (.s (.p gt) M.ts.length M.tc):=N.sl g6 Hd;have g0:wr.C gt (t*3) (.i tl):=by rw[<- Ba HT ()];exact a6 0 _ rfl
     have b0:wr.C k.B 0 (.s k.f.a1 k.f.l.length k.f.c1):=N.cell Hd;have b1:wr.C k.B 1 (.s (.p c) k.f.ms.length k.f.c2):=N.sl i5 Hd;have a9:=N.ltB;have g7:=N.fok ok.f;generalize A[j]=y at *;obtain⟨I,J,K,yc⟩:=y;simp only at y0 y1 y2 y3 hz h0;have d0:=fun b (h':k.f.ok b)=>N5 k.f.a1 (.p c) k.f.c1 k.f.ms.length k.f.c2 k.f.bb k.f.l tl yc b (by have:=h'.1;omega) h'.2.2.2.2.1;have eT:Cw k.f.l=k.E.T:=ok.T;rw[eT]at d0;generalize Tr.rbel k.E.T tl yc=B at *;have g9:=Bc d0;have Q:Bl wr (wr.alloc (O14 I J K yc)):=QN _;have CH:=Bf wr (O14 I J K yc);have h4:=Bc (g7.below Q);have k0:=(Q.cell (p:=.a k.B 0) a9).trans b0;have k1:=(Q.cell (p:=.a k.B 1) a9).trans b1;have k8:=(Q.cell (p:=.a k.B 8) a9).trans c8;have kg:=(Q.cell (p:=.a gt (t*3)) c9).trans g0;have v3:(wr.alloc (O14 I J K yc)).C wr.heap.size 3 (.i yc):=(Bb CH 3).trans rfl;have v0:(wr.alloc (O14 I J K yc)).C wr.heap.size 0 (.i I):=(Bb CH 0).trans rfl;have v1:(wr.alloc (O14 I J K yc)).C wr.heap.size 1 (.i J):=(Bb CH 1).trans rfl;have v2:(wr.alloc (O14 I J K yc)).C wr.heap.size 2 (.i K):=(Bb CH 2).trans rfl;have lV:=Pk CH;have b5:=Bvm a9 Q.size;have h5:=Bvm c9 Q.size;have d2:=QB hB Q;have jb:(j:Int)<(A.length:Int):=Bd;have H2:=Bc (N.below Q);have k7:=hB.size;clear d0 g7 a6 g6 HZ CH eT N;go_wp2;generalize wr.alloc (O14 I J K yc)=W at *;generalize wr.heap.size=V at *
     go_region_held3 (fun b=>b.C k.B 0 (.s k.f.a1 k.f.l.length k.f.c1)/\b.C k.B 1 (.s (.p c) k.f.ms.length k.f.c2)/\b.C k.B 8 (.s (.p gt) M.ts.length M.tc)/\b.C gt (t*3) (.i tl)/\b.C V 3 (.i yc))
      (first|exact⟨k0,k1,k8,kg,v3⟩|exact⟨QC O b5 k0,QC O b5 k1,QC O b5 k8,QC O h5 kg,QC O lV v3⟩)
      (first|(go_at_call 91;refine(Ba g9 _ ((Ba h4).below (Vm _ _).drew)).mono ?_;rintro e w7 ⟨rfl,O⟩))
     have u0:=(O.cell (p:=.a V 0) lV).trans v0;have u1:=(O.cell (p:=.a V 1) lV).trans v1;have u2:=(O.cell (p:=.a V 2) lV).trans v2;have i9:=d2.drew.trans (O.mono d2.size);have h7:=(Ba H2).drew.below O;have k9:=Bvm lV O.size;have H7:=Bc h7;clear O k0 k1 k8 kg v0 v1 v2 v3 b0 b1 c8 g0 y0 y1 y2 y3 g9 h4 H2 e8 hB d2 Q b5 h5 lV a9 i8 c9 h7;by_cases z:I<=(o.p:Int)/\(o.p:Int)<J/\B=true
     ·obtain⟨z1,z2,rfl⟩:=z;rw[Sp ⟨z1,z2,rfl⟩]at hz;subst hz;have G:=Ba b4;rw[Ba a8 ()]at G;simp only at G;have l0:=Ba f9 (by rw[Ba a8 ()];simp);have h7:=Ba H7;obtain⟨g',b2,l1,F,-,c1,-,c3,h6⟩:=Jn h7 rfl;have eg:=(show M.oa=_ from hg).symm.trans (show M.oa=_ from b2);simp only[Option.some.injEq,Addr.mk.injEq,Bwb]at eg;subst eg;have F:w7.C k.B 7 (.s (.p g) (r.length+1) M.oc):=F;rw[a5]at F c1 c3;have f1:=h6 (v*4+1);have j0:g≠k.B:=fun e=>by
       have h':=h7.nd;unfold Br.rows at h';simp only[Bws,Bzu]at h';exact h'.1 _ (Bv1 ..) k.B rfl (by rw[b2,e];rfl)
      have j1:g≠V:=fun e=>Bd;have Y:=Vv h7 rfl b2 K.toNat;rw[Bwo h0,a5]at Y;have Y:=Own.drew Y;have hS:∀b:TW,b.heap[k.B]?=w7.heap[k.B]?->b.heap[V]?=w7.heap[V]?->b.C k.B 7 (.s (.p g) (v+1) M.oc)/\b.C V 2 (.i K):=fun b e1 e2=>⟨(Bvj (a:=⟨k.B,7,none⟩) e1).trans F,(Bvj (a:=⟨V,2,none⟩) e2).trans u2⟩;have q1:decide (I<=(o.p:Int))=true:=by simpa using z1
      have q2:decide ((o.p:Int)<J)=true:=by simpa using z2
      have j2:=Bc (fun (_:Unit)=>G);have H8:=Bc Y;clear G h7 H7 Y c3 h6 b4 a8 f9;go_wp2
      go_region_held3 (fun b=>b.C k.B 7 (.s (.p g) (v+1) M.oc)/\b.C V 2 (.i K))
       (first|exact hS w7.drew rfl rfl|exact hS _ (Bvg _ _ _ _ (Bxc j0)) (Bvg _ _ _ _ (Bxc j1)))
       (fail)
      have Y:=Ba H8;obtain⟨g8,i0,l2,d7,-,-,-,d3,d4⟩:=Jn Y rfl;have eg:=(show M.oa=_ from hg).symm.trans (show M.oa=_ from i0);simp only[Option.some.injEq,Addr.mk.injEq,Bwb]at eg;subst eg;obtain⟨w8,i1⟩:∃w8,w8=(w7.setCell (.a g (v*4+1)) (.i K)).drew:=⟨_,rfl⟩;rw[<- i1]at Y d7 d3 d4 ⊢;have d7:w8.C k.B 7 (.s (.p g) (r.length+1) M.oc):=d7;have h9:=Bpf Y rfl i0;rw[a5]at d7 d3 h9;have f3:=d4 (v*4+3);have HP:=Bc (Ju k _ X ⟨o.m,K.toNat,o.lo,[]⟩ lv (.s none 0 0) r 2 (t:Int) _ ok.f h9 rfl hm (by show (0:Int)<k.f.ms[o.m].1.m.stack;omega) Bd Fr);clear Y h9 d4 hS F c1 u0 u1 u2 H8 i1;go_wp2_with fail;refine Qm (Ba HP) ?_;rintro w9 ⟨l3,h9⟩;have H9:=Bc h9;clear HP h9 d7 d3;go_wp2;refine Bwy (Bw9 rfl _ _ _) rfl ?_;exact⟨rfl,_,Ba H9,by rw[<- Ba j2 ()];rfl⟩
     have HG:Hid (Gz k.E.T tl o.p (A.drop (j+1))=Z):=by unfold Hid;rw[<- hz,Pf z]
     clear hz;have j3:decide (I<=(o.p:Int))=false\/(decide (I<=(o.p:Int))=true/\decide ((o.p:Int)<J)=false)\/(decide (I<=(o.p:Int))=true/\decide ((o.p:Int)<J)=true/\B=false):=by
      simp only[Bwp,Bxb];by_cases g1:I<=(o.p:Int)
      ·by_cases g2:(o.p:Int)<J;·exact .inr (.inr ⟨g1,g2,by cases B;rfl;exact absurd ⟨g1,g2,rfl⟩ z⟩)
       exact .inr (.inl ⟨g1,g2⟩)
      exact .inl g1
     clear z;rcases j3 with q1|⟨q1,q2⟩|⟨q1,q2,rfl⟩
     all_goals
      go_wp2;go_roundw
      case rel=>exact⟨j+1,Bd,Lt,HG,i9⟩
      case measure=>simp[intOf];omega
    have kj:¬(j:Int)<(A.length:Int):=Bd;have hz:=Ba HZ;rw[Bvi Bd,Gz]at hz;subst hz;have G:=Ba b4;rw[Ba a8 ()]at G;have j4:Hid (Ga k.E (t:Int) tl M.d (r.map Prod.fst)=R):=G;have i2:(((o,lv,sv)::r).length)<=M.oc:=Bts N;have l4:v+1<=M.oc:=by rw[<- a5];exact i2
    have l5:¬M.oc<v:=Bd;have l6:(v:Int)<=(M.oc:Int):=Bd;have r0:(0:Int)<=(v:Int):=Bd;have F:wr.C k.B 7 (.s (.p g) (v+1) M.oc):=QC hB (Bvm lB (Bwr g5)) d7;have f7:=N.fz 7;have h3:=Bc4 N rfl;have b2:M.oa=some ⟨g,0,none⟩:=hg;have b6:Bm k (M.put r) X (wr.setCell (.a k.B 7) (.s M.oa r.length M.oc)):=h3;rw[b2,a5]at b6;have i3:Zc (wr.setCell (.a k.B 7) (.s (.p g) v M.oc)) ⟨k.B,7,none⟩=v:=by
     have:(wr.setCell (.a k.B 7) (.s (.p g) v M.oc)).C k.B 7 (.s M.oa r.length M.oc):=b6.cell Hd;unfold Zc;rw[this];exact a5
    have H3:=Bc b6;have j5:=Bc (fun (_:Unit)=>i3);clear G HZ i2 h3 b6 N i3 b4 a8;go_wp2;go_roundw
    case rel=>exact⟨r,Bd,fun x hx=>f0 x (Bv6 _ hx),Ba H3,j4⟩
    case measure=>
     rw[Ba j5 ()];unfold Zc;rw[Ba i4 ()];show v<v+1;omega
def Be9(k:Db)(op n:Int)(v:TX)(w:TW)(b:∃a m c,v=.s a m c)(f:op=12\/op=13\/op=14):Calls prog 153 #[.q k.B 0,.i op,.i n,v] w fun e g=>e=.r (.tuple #[])/\g=w:=by
 obtain⟨a,m,c,rfl⟩:=b;rcases f with rfl|rfl|rfl
 all_goals
  go_in;go_wp2;go_end0;exact⟨rfl,rfl⟩
def Db.Ok.flds{k:Db}(b:k.Ok):k.f.fields=Cq k.cs:=by
 have e:k.f.l.length-7=k.cs.length:=by
  have:=congrArg List.length b.l;simp[Rf.given]at this;omega
 have c:Cw k.f.l=Tr.tree k.cs:=b.T;unfold Cq;rw[<- b.l,<- e,<- c];rfl
abbrev Br.on(k:Db)(M:Br)(o:Ca)(lv sv:Value)(r:List (Ca × Value × Value)):Br:=M.put ((⟨o.m,Ch k.E o,o.lo,o.st⟩,lv,sv)::r)
structure Bdl(k:Db)(M:Br)(o:Ca)(r:List (Ca × Value × Value)):Prop where
 m:o.m<k.f.ms.length
 rl:r.length<=900
 st:o.st.length<=900
 rs:∀q∈r,q.1.st.length<=900/\q.1.m<k.f.ms.length
 ts:M.ts.length<=900
 md:M.made<=900
 out:M.out.length<=90000
section
variable {k:Db}{M:Br}{X:List Rw}{o:Ca}{lv sv:Value}{r:List (Ca × Value × Value)}{op n:Int}{a:List (Int × Int)}{va:Option Addr}{vc:Nat}{w:World}{d':Cs}
def Bj2(p:k.Ok)(R:Bdl k M o r)(h:Bm k (M.on k o lv sv r) X w)(I:2<=op/\op<=6)(F:Bp k.E M.d o (r.map Prod.fst) op n a d'):Calls prog 150 #[.q k.B 0,.i op,.i n] w fun e c=>e=.r (.tuple #[])/\∃C,Bm k C X c/\C.d=d':=by
 have t:=R.m;have A:=p.meth t;have g:r.length<=1000:=by have:=R.rl;omega
 have l:o.st.length<=1000:=by have:=R.st;omega
 cases F using Bp.el with
 | load e n0 nl v0 hl =>
  obtain⟨j,rfl⟩:=Bvk n0;have D:j<o.lo.length:=Bd;have G:o.lo.getD j (0,0)=o.lo[j]:=by rw[Th,Ws D];rfl
  simp only[Bvn,G]at v0 ⊢;subst e;rw[A]at hl;refine(Bl9 k _ X ⟨o.m,Ch k.E o,o.lo,o.st⟩ lv sv r j w p.f h rfl g l t hl D v0).mono ?_;rintro e c ⟨rfl,z,b⟩;exact⟨rfl,_,b,rfl⟩
 | store s v e n0 nl est =>
  obtain⟨j,rfl⟩:=Bvk n0;subst e;refine(Bj0 k _ X ⟨o.m,Ch k.E o,o.lo,o.st⟩ lv sv r j s v w h rfl g l est (by show j<o.lo.length;omega)).mono ?_;rintro e c ⟨rfl,z,b⟩;exact⟨rfl,_,b,rfl⟩
 | pop s v e est =>
  subst e;refine(Bpc k _ X ⟨o.m,Ch k.E o,o.lo,o.st⟩ lv sv r n s v w h rfl g l est).mono ?_;rintro e c ⟨rfl,z,b⟩;exact⟨rfl,_,b,rfl⟩
 | dup s v e est hl =>
  subst e;rw[A]at hl;refine(Bpe k _ X ⟨o.m,Ch k.E o,o.lo,o.st⟩ lv sv r n s v w p.f h rfl g l est t hl).mono ?_;rintro e c ⟨rfl,z,b⟩;exact⟨rfl,_,b,rfl⟩
 | swap s u v e est hl =>
  subst e;rw[A]at hl;refine(Bl1 k _ X ⟨o.m,Ch k.E o,o.lo,o.st⟩ lv sv r n s u v w p.f h rfl g l est t hl).mono ?_;rintro e c ⟨rfl,z,b⟩;exact⟨rfl,_,b,rfl⟩
 | _=>omega
def Zq(l:k.Ok)(R:Bdl k M o r)(h:Bm k (M.on k o lv sv r) (Dc (.s va a.length vc) a::X) w)(hn:-1<=n/\n<=255)(hv:7<=op->op<=10->(-2147483648<=(Cg a).2/\(Cg a).2<=2147483647)/\(-2147483648<=(Ib a).2/\(Ib a).2<=2147483647))(a3:¬(2<=op/\op<=6)/\op≠11/\op≠15/\op≠16/\op≠20/\op≠21/\op≠22)(F:Ii op a=false)(hD:Bp k.E M.d o (r.map Prod.fst) op n a d'):Calls prog 153 #[.q k.B 0,.i op,.i n,.s va a.length vc] w fun e p=>e=.r (.tuple #[])/\∃M',Bm k M' (Dc (.s va a.length vc) a::X) p/\M'.d=d':=by
 have D:=R.m;have K:=l.meth D;have G:r.length<=1000:=by have:=R.rl;omega
 have I:o.st.length<=1000:=by have:=R.st;omega
 have A:M.d.ts=M.ts.map Prod.fst:=rfl;have a2:(E:Cr)->E=k.E->∀j,j<(Cq k.cs).length->∃h:j<k.f.fields.length,k.f.fields[j]=E.fld (j:Int):=fun E e j F=>by
  subst e;refine⟨by rw[l.flds];exact F,?_⟩;unfold Cr.fld;simp only[Bvn];have e2:=l.flds;rw[Th];show _=((Cq k.cs)[j]?).getD _;rw[Ws F];simp only[Bz7]
  congr 1
 cases hD using Bp.el with
 | stay h12 h14 _ _ _ =>
  refine Qm (Be9 k op n _ w ⟨_,_,_,rfl⟩ Bd) ?_;rintro p rfl;exact⟨rfl,_,h,rfl⟩
 | jump _ _ _ _ _ hj'=>rw[F]at hj';cases hj'
 | push hp h17 h1 h2 hl =>
  rw[K]at hl;by_cases g:op=17
  ·subst g;obtain⟨L,N,O,Q,V,Y⟩:=h17 rfl;have C:=h1 (.inl rfl);obtain⟨j,rfl⟩:=Bvk L;obtain⟨q,v⟩:=Bvk O;obtain⟨t,c⟩:=Bvk Q;obtain⟨Z,a0⟩:=a2 _ rfl j N;have z:t<M.ts.length:=by
    rw[c,A,Bvr]at V;omega
   rw[c,v,A,Vu z]at Y;have ea:a[0].2=(t:Int):=by
    rw[<- c];show _=(a.getD 0 (0,0)).2;rw[Th,Ws C];rfl
   have J:q<M.ts[t].1.vals.length:=Bd;have ep:Mr k.E M.d 17 (j:Int) a=M.ts[t].1.vals[q]:=by
    show (Cc M.d.ts (Cg a).2).vals.getD (k.E.fld (j:Int)).slot.toNat (0,0)=_;rw[c,v,A,Vu z,Th];simp only[Bxx,Bvn];rw[Ws J];rfl
   rw[ep];refine(Bah k 17 (j:Int) _ w ⟨_,_,_,rfl⟩ (.inl rfl) _ (Bpd k (M.on k o lv sv r) X ⟨o.m,Ch k.E o,o.lo,o.st⟩ lv sv r j t q a va vc w l.f h rfl G I D hl C ea z Z (by rw[a0];exact v) J)).mono ?_;rintro e p ⟨rfl,a1,b⟩;exact⟨rfl,_,b,rfl⟩
  refine(Bft k (M.on k o lv sv r) X ⟨o.m,Ch k.E o,o.lo,o.st⟩ lv sv r op n a va vc w l h rfl G I D hl Bd hn (fun e=>h1 (.inr e)) h2 hv).mono ?_;rintro e p ⟨rfl,a1,b⟩;exact⟨rfl,_,b,rfl⟩
 | read e hrd hl =>
  subst e;rw[K]at hl;refine(Bj1 k (M.on k o lv sv r) _ ⟨o.m,Ch k.E o,o.lo,o.st⟩ lv sv r n _ w l h rfl G I D hl ⟨_,_,_,rfl⟩ hrd).mono ?_;rintro e p ⟨rfl,a1,b⟩;exact⟨rfl,_,b,rfl⟩
 | none e hrd hl =>
  subst e;rw[K]at hl;refine(Bfu k (M.on k o lv sv r) _ ⟨o.m,Ch k.E o,o.lo,o.st⟩ lv sv r n _ w l h rfl G I D hl ⟨_,_,_,rfl⟩ hrd).mono ?_;rintro e p ⟨rfl,a1,b⟩;exact⟨rfl,_,b,rfl⟩
 | out e C =>
  subst e;refine Qm (Bhv k (M.on k o lv sv r) X n a va vc w h C (by have:=R.out;show M.out.length<=100000;omega)) ?_;rintro p ⟨xa,xc,b⟩;exact⟨rfl,_,b,rfl⟩
 | put e C L N O Q V Y =>
  subst e;obtain⟨j,rfl⟩:=Bvk L;obtain⟨q,v⟩:=Bvk O;obtain⟨t,c⟩:=Bvk Q;obtain⟨Z,a0⟩:=a2 _ rfl j N;have z:t<M.ts.length:=by
   rw[c,A,Bvr]at V;omega
  rw[c,v,A,Vu z]at Y;have ea:(a[0]'Bd).2=(t:Int):=by
   rw[<- c];show _=(a.getD 0 (0,0)).2;rw[Th,Ws Bd];rfl
  have J:q<M.ts[t].1.vals.length:=Bd;have e1:Ib a=a[1]:=by
   show a.getD 1 (0,0)=_;rw[Th,Ws Bd];rfl
  rw[c,v,A,Vu z,e1];refine Qm (Bah k 18 (j:Int) _ w ⟨_,_,_,rfl⟩ (.inr rfl) _ (Bpb k (M.on k o lv sv r) X j t q a va vc w l.f h C ea z Z (by rw[a0];exact v) J)) ?_;intro p b;refine⟨rfl,_,b,?_⟩;simp[Br.d,Br.withTs,Br.put,Cs.with,Byj]
 | _=>omega
end
def Lh{k:Db}{M:Br}{X:List Rw}{w:TW}{y:Rw}(h:Bm k M (y::X) w):Bm k M X w:=Own.sub h ((Bw4 y X).append_left _)
def Db.Ok.good{k:Db}(b:k.Ok){u:Nat}(h:u<k.f.ms.length):Ra k.E.T (Cd.fieldSum k.cs:Int) k.ms (k.E.meth u):=b.fm.mt _ (by rw[b.meth h,<- b.eq];exact Bwa (Bvh h))
def Db.Ok.ml{k:Db}(b:k.Ok):k.E.ms.length=k.f.ms.length:=by
 show k.ms.length=_;rw[<- b.eq,Bvr]
def Zw{E:Cr}{c B:Int}{u:Nat}:∀(l:List Rd.Mth) (i b:Nat),b<u->i+l.length<=u->Fd E c B l i b<u
 | [],_,_,h,_=>h
 | m::l,i,b,h,h2=>by
  simp only[Bvo]at h2;unfold Fd
  split
  ·exact Zw l (i+1) i Bd Bd
  exact Zw l (i+1) b h Bd
def Bqq{op:Int}{a:TP}(h:Ii op a=true):op=11\/op=12/\(Cg a).2=0\/op=14/\(Cg a).2=0\/op=13/\(Cg a).2<(Ib a).2:=by
 unfold Ii at h;simp only[B0e,Bwk,By9,Bwp]at h;rcases h with ((h|h)|h)|h
 ·exact .inl h
 ·exact .inr (.inl h)
 ·exact .inr (.inr (.inl h))
 exact .inr (.inr (.inr h))
def Bnx{op:Int}{a:TP}(h:Ii op a=false):op≠11/\(op=12->(Cg a).2≠0)/\(op=14->(Cg a).2≠0)/\(op=13->¬(Cg a).2<(Ib a).2):=by
 unfold Ii at h;simp only[Bxo,Bool.and_eq_false_iff,Byp,Bxb]at h;obtain⟨⟨⟨b,c⟩,f⟩,g⟩:=h;exact⟨b,fun e=>c.resolve_left (fun k=>k e),fun e=>f.resolve_left (fun k=>k e),fun e=>g.resolve_left (fun k=>k e)⟩
structure Bhr(k:Db)(M:Br)(o:Ca)(r:List (Ca × Value × Value))(m:RMV)(a:List (Int × Int))(op n:Int)(d':Cs):Prop where
 ok:k.Ok
 R:Bdl k M o r
 code:Co m.code=(k.E.meth o.m).code
 r1:m.r1=(k.E.meth o.m).result.1
 p:o.p<(k.E.meth o.m).code.length
 eo:(k.E.meth o.m).code.getD o.p 0=op
 en:Cd.atI (k.E.meth o.m).code ((o.p:Int)+1)=n
 v:7<=op->op<=10->(-2147483648<=(Cg a).2/\(Cg a).2<=2147483647)/\(-2147483648<=(Ib a).2/\(Ib a).2<=2147483647)
 D:Bp k.E M.d o (r.map Prod.fst) op n a d'
def Bmb(k:Db)(M:Br)(X:List Rw)(o:Ca)(lv sv:TX)(r:List (Ca×Value×Value))(m:RMV)(a:TP)(va:TA)(vc:Nat)(op n:Int)(d':Cs)(w:TW)(P:Bhr k M o r m a op n d')(h:Bm k M (Dc (.s va a.length vc) a::X) w)(hM:M.os=(o,lv,sv)::r):Calls prog 103 #[.q k.B 0,m.val,.i (o.p:Int),.s va a.length vc] w fun e A=>e=.r (.tuple #[])/\∃M',Bm k M' X A/\M'.d=d':=by
 have K:=P.ok;have g1:m.code.size<=1000:=by
  have:=(K.fm.mt _ (show k.E.meth o.m∈k.ms by rw[K.meth P.R.m,<- K.eq];exact Bwa (Bvh P.R.m))).bd.code;rw[<- P.code,Jo]at this;omega
 have hp:o.p<m.code.size:=by rw[<- Jo,P.code];exact P.p
 have c5:=fun A=>Yq m o.p A hp Bd;rw[Wi,P.code,P.en]at c5;have hN:=fun A=>Uq m o.p A hp Bd;rw[P.code]at hN;have c6:o.p+Cd.wd ((k.E.meth o.m).code.getD o.p 0)=Ch k.E o:=rfl;rw[c6]at hN;have b6:(m.code[o.p].toNat:Int)=op:=by rw[<- Sd _ _ hp,P.code,P.eo]
 have g3:-1<=n/\n<=255:=by
  rw[<- P.en,<- P.code,<- Wi];exact Rf.at_bd _ _
 have HP:=Bc P;obtain⟨cl,nm,pa,pl,pc,r1,r2,lo,st,a7,ha,hl,hc,ma,ml,mc,a8,a9⟩:=m;simp only[RMV.val]at c5 hN b6 hp g1 ⊢;have i1:(o.p:Int)<(a7.size:Int):=Bd;have i2:∀c:UInt8,IntKind.i64.wrap (c.toNat:Int)=(c.toNat:Int):=fun c=>Eg _ Bd (by have:=c.toNat_lt;omega);have g4:=Bc c5;have HN:=Bc hN;have H:=Bc h;have g5:=Bc (fun (_:Unit)=>b6);have hD:=P.D;clear c5 hN P h g1 c6 b6;obtain⟨d2,d7⟩:∃d2,d2=d':=⟨_,rfl⟩;rw[<- d7]at hD;have a3:=Bc hD;have a0:=Bc (fun (_:Unit)=>d7);clear hD d7;go_in;go_wp2_with fail;refine Qm (Ba g4 _) ?_;intro w1 d8;have i3:Bl w w1:=(QN (O12 cl nm pa pl pc r1 r2 lo st a7 ha hl hc ma ml mc a8 a9)).trans (d8.mono Fr);have CM:=stay d8 (Bf w (O12 cl nm pa pl pc r1 r2 lo st a7 ha hl hc ma ml mc a8 a9));have d9:=Pk CM;have hA:=(Ba H).below i3;generalize k1:w.heap.size=G at *;have b1:∀A:TW,A.heap[G]?=some (O12 cl nm pa pl pc r1 r2 lo st a7 ha hl hc ma ml mc a8 a9)->A.C G 0 (.i cl)/\A.C G 1 (.i nm)/\A.C G 2 (.s pa pl pc)/\A.C G 3 (.i r1)/\A.C G 4 (.i r2)/\A.C G 5 (.i lo)/\A.C G 6 (.i st)/\A.C G 7 (.string a7)/\A.C G 8 (.s ha hl hc)/\A.C G 9 (.s ma ml mc)/\A.C G 10 (.i a8)/\A.C G 11 (.i a9):=fun A e=>⟨(Bb e 0).trans rfl,(Bb e 1).trans rfl,(Bb e 2).trans rfl,(Bb e 3).trans rfl,(Bb e 4).trans rfl,(Bb e 5).trans rfl,(Bb e 6).trans rfl,(Bb e 7).trans rfl,(Bb e 8).trans rfl,(Bb e 9).trans rfl,(Bb e 10).trans rfl,(Bb e 11).trans rfl⟩;have b6:=Ba g5 ();rw[b6];clear b6 g5 g4 d8 i2 hp i1;have R:=(Ba HP).R;have g6:M.os.length<=1000:=by
  have:=R.rl;rw[hM];simp;omega
 by_cases k2:op=20\/op=21\/op=22
 ·have hD:=Ba a3;cases hD using Bp.el with
  | call e n0 nl al =>
   subst e;obtain⟨j,rfl⟩:=Bvk n0;simp only[Bxx,Bvn]at nl al a0 ⊢;have b8:j<k.f.ms.length:=by rw[<- K.ml];exact nl
   have f0:=(K.good b8).rd.lo;have HC:=Bc (Zr k M X j (k.E.meth j).locals.toNat a va vc w1 K.f hA b8 (by rw[Bwo f0.1,K.meth b8]) Bd Bd g6);clear HN H a3 CM b1 hA HP;go_wp2_with fail;refine Qm (Ba HC) ?_;rintro L ⟨i4,oa,oc,F⟩;have Y:=Bc (Lh F);clear HC F;go_wp2;refine Bwy (Bw9 rfl _ _ _) rfl ?_;exact⟨rfl,_,Ba Y,by rw[<- Ba a0 ()];simp[Br.d,Br.open,hM,Cs.top,Hv]⟩
  | send e n0 nl al v0 vl sl =>
   subst e;obtain⟨j,rfl⟩:=Bvk n0;obtain⟨t,ht⟩:=Bvk v0;simp only[Bxx,Bvn]at nl ht;have b8:j<k.f.ms.length:=by rw[<- K.ml];exact nl
   have tl:t<M.ts.length:=by
    rw[ht]at vl;have:(M.d.ts.length:Int)=(M.ts.length:Int):=by simp[Br.d]
    omega
   obtain⟨ga,rfl,_,-,N⟩:=vxg hA al;simp only[Bwh,Bvp]at N;rw[show (a.getD 0 (0,0)).2=(t:Int) from ht]at N;have O:=Bc (Bl3 k M _ j t w1 K hA b8 tl);have k3:(0:Int)<(a.length:Int):=Bd;have hb:∃b,Px k.E M.d (j:Int) (Cg a).2=b:=⟨_,rfl⟩;obtain⟨b,hb⟩:=hb;have f2:b<k.f.ms.length:=by
    rw[<- hb,<- K.ml];exact Zw _ _ _ nl Bd
   have i5:=Bc (fun (_:Unit)=>hb);have b9:=hb;rw[ht]at b9;simp only[Bxx,hb,b9]at sl O;have f0:=(K.good f2).rd.lo;have HC:=Bc (fun (A:TW) (hB:Bl w1 A)=>Zr k M X b (k.E.meth b).locals.toNat a _ vc A K.f (hA.below hB) f2 (by rw[Bwo f0.1,K.meth f2]) Bd Bd g6);clear HN H a3 CM b1 hA HP hb ht vl v0 b9;go_wp2_with fail;refine Qm (Ba O) ?_;intro w2 b9;have g7:=Bc (Ba HC _ b9);clear O HC;go_wp2_with fail;refine Qm (Ba g7) ?_;rintro L ⟨i4,oa,oc,F⟩;have Y:=Bc (Lh F);clear g7 F;go_wp2;refine Bwy (Bw9 rfl _ _ _) rfl ?_;exact⟨rfl,_,Ba Y,by rw[<- Ba a0 (),Ba i5 ()];simp[Br.d,Br.open,hM,Cs.top,Hv]⟩
  | ret0 e hr hra =>
   subst e;have i6:r=[]:=List.map_eq_nil_iff.1 hr;subst i6;have e1:r1=(k.E.meth o.m).result.1:=(Ba HP).r1;have HC:=Bc (Bj4 k M X (o,lv,sv) ⟨cl,nm,pa,pl,pc,r1,r2,lo,st,a7,ha,hl,hc,ma,ml,mc,a8,a9⟩ a va vc w1 hA hM (by show r1=1->_;rw[e1];exact hra));simp only[RMV.val]at HC;obtain⟨m0,m1,m2,m3,m4,m5,m6,m7,m8,m9,i7,i8⟩:=b1 w1 CM;have HE:=Bc (fun (_:Unit)=>e1);clear HN H a3 CM b1 hA HP hra e1 hr;go_wp2_with fail;refine Qm (Ba HC) ?_;intro L F;have Y:=Bc (Lh F);clear HC F;go_wp2;refine Bwy (Bw9 rfl _ _ _) rfl ?_;exact⟨rfl,_,Ba Y,by rw[<- Ba a0 (),<- Ba HE ()];rfl⟩
  | ret q r' e hr hal hqp b2 =>
   subst e;obtain⟨⟨q',lq,sq⟩,rr,rfl,rfl,rfl⟩:∃x rr,r=x::rr/\x.1=q/\rr.map Prod.fst=r':=by
    cases r with
    | nil=>cases hr
    | cons x rr =>
     simp only[Bwm,List.cons.injEq]at hr;exact⟨x,rr,rfl,hr.1,hr.2⟩
   obtain⟨g8,c8⟩:=R.rs _ (Bv1 ..);simp only at g8 c8 hqp b2;have em:=K.meth c8;have g9:=(K.good c8).bd.code;have a4:=R.rl;rw[em]at hqp b2 g9;have HC:=Bc (Bmc k M X (o,lv,sv) q' lq sq rr ⟨cl,nm,pa,pl,pc,r1,r2,lo,st,a7,ha,hl,hc,ma,ml,mc,a8,a9⟩ a va vc w1 K.f hA hM hal (by simp at a4;omega) g8 c8 hqp Bd b2);have c6:q'.p+Cd.wd (k.f.ms[q'.m].1.m.code.getD q'.p 0)=Ch k.E q':=by unfold Ch;rw[em]
   rw[c6]at HC;simp only[RMV.val]at HC;obtain⟨m0,m1,m2,m3,m4,m5,m6,m7,m8,m9,i7,i8⟩:=b1 w1 CM;clear HN H a3 CM b1 hA HP hr hqp b2 em g9 a4;go_wp2_with fail;refine Qm (Ba HC) ?_;rintro L ⟨h0,F⟩;have Y:=Bc (Lh F);clear HC F;go_wp2;refine Bwy (Bw9 rfl _ _ _) rfl ?_;exact⟨rfl,_,Ba Y,by rw[<- Ba a0 ()];rfl⟩
  | push hp=>omega
  | _=>omega
 obtain⟨g,hg,f3,Q,-,c1,-,-,a2⟩:=Jn hA hM;obtain⟨g0,i9,j0,-,-⟩:=(Ba H).last hM;have eg:=hg.symm.trans i9;simp only[Option.some.injEq,Addr.mk.injEq,Bwb]at eg;subst eg;have h3:g≠G:=Bd;have c0:g≠k.B:=fun e=>by
  have h':=hA.nd;unfold Br.rows at h';simp only[Bws,Bzu]at h';exact h'.1 _ (Bv1 ..) k.B rfl (by rw[hg,e];rfl)
 have lB:=hA.ltB;have h4:=Bc (fun (A:TW) (hb:Bl w1 A)=>Vv (hA.below hb) hM hg (Ch k.E o));have k4:=R.rl;generalize a4:r.length=I at *;have k5:IntKind.i64.wrap (((I+1:Nat):Int)-1)=(I:Int):=by rw[show ((I+1:Nat):Int)-1=(I:Int) by omega];exact Eg _ Bd Bd
 have ri:(I:Int)<(I:Int)+1:=Bd;have k6:IntKind.i64.wrap ((I:Int)+1-1)=(I:Int):=by rw[show (I:Int)+1-1=(I:Int) by omega];exact Eg _ Bd Bd
 have k7:IntKind.i64.wrap (I:Int)=(I:Int):=Eg _ Bd Bd;have r0:(0:Int)<=(I:Int):=Bd;have f1:=a2 (I*4+1);have c9:∀A:TW,A.heap[k.B]?=w1.heap[k.B]?->A.heap[G]?=some (O12 cl nm pa pl pc r1 r2 lo st a7 ha hl hc ma ml mc a8 a9)->A.C k.B 7 (.s (.p g) (I+1) M.oc)/\A.C G 0 (.i cl)/\A.C G 1 (.i nm)/\A.C G 2 (.s pa pl pc)/\A.C G 3 (.i r1)/\A.C G 4 (.i r2)/\A.C G 5 (.i lo)/\A.C G 6 (.i st)/\A.C G 7 (.string a7)/\A.C G 8 (.s ha hl hc)/\A.C G 9 (.s ma ml mc)/\A.C G 10 (.i a8)/\A.C G 11 (.i a9):=fun A e1 e2=>⟨(Bvj (a:=⟨k.B,7,none⟩) e1).trans Q,b1 A e2⟩;have h5:(op==20)=false:=Fm;have h6:(op==21)=false:=Fm;have h7:(op==22)=false:=Fm;clear b1 hA H a2;go_wp2
 go_region_held3 (fun A=>A.C k.B 7 (.s (.p g) (I+1) M.oc)/\A.C G 0 (.i cl)/\A.C G 1 (.i nm)/\A.C G 2 (.s pa pl pc)/\A.C G 3 (.i r1)/\A.C G 4 (.i r2)/\A.C G 5 (.i lo)/\A.C G 6 (.i st)/\A.C G 7 (.string a7)/\A.C G 8 (.s ha hl hc)/\A.C G 9 (.s ma ml mc)/\A.C G 10 (.i a8)/\A.C G 11 (.i a9))
  (first|exact c9 w1.drew rfl CM|exact c9 _ (b3.block _ lB) ((b3.block _ d9).trans CM)|exact c9 _ ((Bvg _ _ _ _ (Bxc c0)).trans (b3.block _ lB)) ((Bvg _ _ _ _ (Bxc h3)).trans ((b3.block _ d9).trans CM)))
  (first|(go_at_call 94;refine Qm (Ba HN _) ?_;intro w7 b3;have j1:=(b3.frozen (p:=.a g (I*4+1)) f3).trans f1;have j2:=(b3.cell (p:=.a g (I*4+1)) f3).trans c1))
 have J:=Ba h4 _ ((Vm _ _).drew.trans b3);have J:Bm k (M.on k o lv sv r) (Dc (.s va a.length vc) a::X) (w7.setCell (.a g (I*4+1)) (.i ((Ch k.E o:Nat):Int))):=J;generalize w7.setCell (.a g (I*4+1)) (.i ((Ch k.E o:Nat):Int))=V at *;have H8:=Bc J;have hv:=(Ba HP).v;clear h4 b3 j1 j2 c1 f1 Q c9 CM d9 f3 j0 HN h3;have d0:(M.on k o lv sv r).oa=some ⟨g,0,none⟩:=hg;cases hj:Ii op a with
 | true =>
  have j3:=Bqq hj;have hD:=Ba a3;cases hD using Bp.el with
  | jump _ _ h13 h1 n0 _ =>
   clear a3 HP hv hj h5 h6 h7;rcases j3 with e|⟨e,z⟩|⟨e,z⟩|⟨e,z⟩
   ·subst e;clear J;go_wp2;go_quiet (fail);rename_i nq;have F:=Own.drewN (Ba H8) nq;clear H8;generalize V.drewN nq=L at *;obtain⟨g2,a5,f4,Q,-,c1,-,-,a2⟩:=Jn F rfl;have eg:=d0.symm.trans a5;simp only[Option.some.injEq,Addr.mk.injEq,Bwb]at eg;subst eg;have Q:L.C k.B 7 (.s (.p g) (r.length+1) M.oc):=Q;have a1:=Vv F rfl a5 n.toNat;rw[Bwo n0,a4]at a1;rw[a4]at Q c1;have f1:=a2 (I*4+1);have hS:∀A:TW,A.heap[k.B]?=L.heap[k.B]?->A.C k.B 7 (.s (.p g) (I+1) M.oc):=fun A e1=>(Bvj (a:=⟨k.B,7,none⟩) e1).trans Q;have b4:=Bc (Lh (Own.drew a1));clear F a1 a2;go_wp2
    go_region_held3 (fun A=>A.C k.B 7 (.s (.p g) (I+1) M.oc))
     (first|exact hS L.drew rfl|exact hS _ (Bvg _ _ _ _ (Bxc c0)))
     (fail)
    go_wp2;refine Bwy (Bw9 rfl _ _ _) rfl ?_;exact⟨rfl,_,Ba b4,by rw[<- Ba a0 ()];rfl⟩
   ·subst e;obtain⟨ga,rfl,_,-,N⟩:=vxg J (q:=0) (h1 Bd);simp only[Bwh,Bvp]at N;rw[show (a.getD 0 (0,0)).2=0 from z]at N;have f5:0<a.length:=h1 Bd;clear J;go_wp2;go_quiet (fail);rename_i nq;have F:=Own.drewN (Ba H8) nq;clear H8 N;generalize V.drewN nq=L at *;obtain⟨g2,a5,f4,Q,-,c1,-,-,a2⟩:=Jn F rfl;have eg:=d0.symm.trans a5;simp only[Option.some.injEq,Addr.mk.injEq,Bwb]at eg;subst eg;have Q:L.C k.B 7 (.s (.p g) (r.length+1) M.oc):=Q;have a1:=Vv F rfl a5 n.toNat;rw[Bwo n0,a4]at a1;rw[a4]at Q c1;have f1:=a2 (I*4+1);have hS:∀A:TW,A.heap[k.B]?=L.heap[k.B]?->A.C k.B 7 (.s (.p g) (I+1) M.oc):=fun A e1=>(Bvj (a:=⟨k.B,7,none⟩) e1).trans Q;have b4:=Bc (Lh (Own.drew a1));clear F a1 a2;go_wp2
    go_region_held3 (fun A=>A.C k.B 7 (.s (.p g) (I+1) M.oc))
     (first|exact hS L.drew rfl|exact hS _ (Bvg _ _ _ _ (Bxc c0)))
     (fail)
    go_wp2;refine Bwy (Bw9 rfl _ _ _) rfl ?_;exact⟨rfl,_,Ba b4,by rw[<- Ba a0 ()];rfl⟩
   ·subst e;obtain⟨ga,rfl,_,-,N⟩:=vxg J (q:=0) (h1 Bd);simp only[Bwh,Bvp]at N;rw[show (a.getD 0 (0,0)).2=0 from z]at N;have f5:0<a.length:=h1 Bd;clear J;go_wp2;go_quiet (fail);rename_i nq;have F:=Own.drewN (Ba H8) nq;clear H8 N;generalize V.drewN nq=L at *;obtain⟨g2,a5,f4,Q,-,c1,-,-,a2⟩:=Jn F rfl;have eg:=d0.symm.trans a5;simp only[Option.some.injEq,Addr.mk.injEq,Bwb]at eg;subst eg;have Q:L.C k.B 7 (.s (.p g) (r.length+1) M.oc):=Q;have a1:=Vv F rfl a5 n.toNat;rw[Bwo n0,a4]at a1;rw[a4]at Q c1;have f1:=a2 (I*4+1);have hS:∀A:TW,A.heap[k.B]?=L.heap[k.B]?->A.C k.B 7 (.s (.p g) (I+1) M.oc):=fun A e1=>(Bvj (a:=⟨k.B,7,none⟩) e1).trans Q;have b4:=Bc (Lh (Own.drew a1));clear F a1 a2;go_wp2
    go_region_held3 (fun A=>A.C k.B 7 (.s (.p g) (I+1) M.oc))
     (first|exact hS L.drew rfl|exact hS _ (Bvg _ _ _ _ (Bxc c0)))
     (fail)
    go_wp2;refine Bwy (Bw9 rfl _ _ _) rfl ?_;exact⟨rfl,_,Ba b4,by rw[<- Ba a0 ()];rfl⟩
   subst e;obtain⟨ga,rfl,_,-,N⟩:=vxg J (q:=0) (h1 Bd);simp only[Bwh,Bvp]at N;obtain⟨gb,c2,_,-,x3⟩:=vxg J (q:=1) (h13 rfl);simp only[Option.some.injEq,Addr.mk.injEq,Bwb]at c2;subst c2;simp only[Bx8]at x3;have j4:1<a.length:=h13 rfl;have a6:(a.getD 0 (0,0)).2=(Cg a).2:=rfl;have c3:(a.getD 1 (0,0)).2=(Ib a).2:=rfl;rw[a6]at N;rw[c3]at x3;generalize (Cg a).2=z0 at *;generalize (Ib a).2=z1 at *;have z':decide (z0<z1)=true:=by simpa using z
   clear J a6 c3;go_wp2;go_quiet (fail);rename_i nq;have F:=Own.drewN (Ba H8) nq;clear H8 N x3;generalize V.drewN nq=L at *;obtain⟨g2,a5,f4,Q,-,c1,-,-,a2⟩:=Jn F rfl;have eg:=d0.symm.trans a5;simp only[Option.some.injEq,Addr.mk.injEq,Bwb]at eg;subst eg;have Q:L.C k.B 7 (.s (.p g) (r.length+1) M.oc):=Q;have a1:=Vv F rfl a5 n.toNat;rw[Bwo n0,a4]at a1;rw[a4]at Q c1;have f1:=a2 (I*4+1);have hS:∀A:TW,A.heap[k.B]?=L.heap[k.B]?->A.C k.B 7 (.s (.p g) (I+1) M.oc):=fun A e1=>(Bvj (a:=⟨k.B,7,none⟩) e1).trans Q;have b4:=Bc (Lh (Own.drew a1));clear F a1 a2;go_wp2
   go_region_held3 (fun A=>A.C k.B 7 (.s (.p g) (I+1) M.oc))
    (first|exact hS L.drew rfl|exact hS _ (Bvg _ _ _ _ (Bxc c0)))
    (fail)
   go_wp2;refine Bwy (Bw9 rfl _ _ _) rfl ?_;exact⟨rfl,_,Ba b4,by rw[<- Ba a0 ()];rfl⟩
  | stay _ _ _ _ hj'=>rw[hj]at hj';cases hj'
  | push hp=>omega
  | _=>omega
 | false =>
  obtain⟨f6,d1,d3,d4⟩:=Bnx hj;have hD:=Ba a3;by_cases gs:op=12\/op=13\/op=14
  ·have O:=Bc (fun (A:TW) (hb:Bl V A)=>Zq K R (J.below hb) g3 hv Bd hj hD);have b5:0<a.length/\(op=13->1<a.length):=by
    cases hD using Bp.el with
    | stay _ _ q1 q2 _=>exact⟨q2,q1⟩
    | push hp=>omega
    | _=>omega
   clear hD a3 HP hv hj h5 h6 h7;rcases gs with e|e | e
   ·subst e;obtain⟨ga,rfl,_,-,N⟩:=vxg J (q:=0) b5.1;simp only[Bwh,Bvp]at N;have f5:0<a.length:=b5.1;have a6:(a.getD 0 (0,0)).2=(Cg a).2:=rfl;have z:=d1 rfl;rw[a6]at N;generalize (Cg a).2=z0 at *;have z':(z0==0)=false:=by simpa using z
    clear J a6 f6 d1 d4 d3;go_wp2;go_quiet (fail);rename_i nq;have Z:=Bc (Ba O (V.drewN nq) (Cy (Vm V.heap.size V)));clear O;go_wp2_with fail;refine Qm (Ba Z) ?_;rintro L ⟨M9,F,e9⟩;have Y:=Bc (Lh F);have b0:=Bc (fun (_:Unit)=>e9);clear Z F e9;go_wp2;go_end0;exact⟨rfl,_,Ba Y,by rw[Ba b0 (),Ba a0 ()]⟩
   ·subst e;obtain⟨ga,rfl,_,-,N⟩:=vxg J (q:=0) b5.1;simp only[Bwh,Bvp]at N;obtain⟨gb,c2,_,-,x3⟩:=vxg J (q:=1) (b5.2 rfl);simp only[Option.some.injEq,Addr.mk.injEq,Bwb]at c2;subst c2;simp only[Bx8]at x3;have j4:1<a.length:=b5.2 rfl;have a6:(a.getD 0 (0,0)).2=(Cg a).2:=rfl;have c3:(a.getD 1 (0,0)).2=(Ib a).2:=rfl;have z:=d4 rfl;rw[a6]at N;rw[c3]at x3;generalize (Cg a).2=z0 at *;generalize (Ib a).2=z1 at *;have z':decide (z0<z1)=false:=by simpa using z
    clear J a6 c3 f6 d1 d4 d3;go_wp2;go_quiet (fail);rename_i nq;have Z:=Bc (Ba O (V.drewN nq) (Cy (Vm V.heap.size V)));clear O;go_wp2_with fail;refine Qm (Ba Z) ?_;rintro L ⟨M9,F,e9⟩;have Y:=Bc (Lh F);have b0:=Bc (fun (_:Unit)=>e9);clear Z F e9;go_wp2;go_end0;exact⟨rfl,_,Ba Y,by rw[Ba b0 (),Ba a0 ()]⟩
   subst e;obtain⟨ga,rfl,_,-,N⟩:=vxg J (q:=0) b5.1;simp only[Bwh,Bvp]at N;have f5:0<a.length:=b5.1;have a6:(a.getD 0 (0,0)).2=(Cg a).2:=rfl;have z:=d3 rfl;rw[a6]at N;generalize (Cg a).2=z0 at *;have z':(z0==0)=false:=by simpa using z
   clear J a6 f6 d1 d4 d3;go_wp2;go_quiet (fail);rename_i nq;have Z:=Bc (Ba O (V.drewN nq) (Cy (Vm V.heap.size V)));clear O;go_wp2_with fail;refine Qm (Ba Z) ?_;rintro L ⟨M9,F,e9⟩;have Y:=Bc (Lh F);have b0:=Bc (fun (_:Unit)=>e9);clear Z F e9;go_wp2;go_end0;exact⟨rfl,_,Ba Y,by rw[Ba b0 (),Ba a0 ()]⟩
  have k8:(op==11)=false:=Fm;have k9:(op==12)=false:=Fm;have l0:(op==13)=false:=Fm;have l1:(op==14)=false:=Fm;have nb:=fun q=>(Cy (Vm V.heap.size V):Bl V (V.drewN q));by_cases gm:2<=op/\op<=6
  ·have O:=Bc (fun (A:TW) (hb:Bl V A)=>Bj2 K R (J.below hb) gm hD);clear hD a3 HP hv hj J;have:op=2\/op=3\/op=4\/op=5\/op=6:=Bd;rcases this with rfl|rfl|rfl|rfl|rfl
   all_goals
    go_wp2;go_quiet (fail);rename_i nq;have Z:=Bc (Ba O _ (nb nq));clear O;go_wp2_with fail;refine Qm (Ba Z) ?_;rintro L ⟨M9,F,e9⟩;have Y:=Bc (Lh F);have b0:=Bc (fun (_:Unit)=>e9);clear Z F e9;go_wp2;go_end0;exact⟨rfl,_,Ba Y,by rw[Ba b0 (),Ba a0 ()]⟩
  have p2:(op==2)=false:=Fm;have p3:(op==3)=false:=Fm;have p4:(op==4)=false:=Fm;have p5:(op==5)=false:=Fm;have p6:(op==6)=false:=Fm;by_cases j5:op=15
  ·subst j5;have hm:=R.m;have em:=K.meth hm;have f7:(o.st.length:Int)<(k.E.meth o.m).stack/\(⟨⟨o.m,Ch k.E o,o.lo,o.st++[(2,(M.d.ts.length:Int))]⟩::r.map Prod.fst,M.d.ts++[⟨n,false,[]⟩],M.d.made+1,M.d.read,M.d.out,M.d.steps,M.d.status,M.d.value⟩:Cs)=d':=by
    rw[<- Ba a0 ()];cases hD using Bp.el with
    | new e hl=>exact⟨hl,rfl⟩
    | push hp=>omega
    | _=>omega
   obtain⟨f8,i0⟩:=f7;rw[em]at f8;have j6:=R.st;have j7:=R.ts;have l2:=R.md;have O:=Bc (fun (A:TW) (hb:Bl V A)=>Bjy k (M.on k o lv sv r) _ ⟨o.m,Ch k.E o,o.lo,o.st⟩ lv sv r n A K.f (J.below hb) rfl Bd (by show o.st.length<=1000;omega) hm f8 (by show M.ts.length<=1000;omega) (by show M.made<=1000;omega));have HE:=Bc (fun (_:Unit)=>i0);clear hD a3 HP hv hj J a0 i0 em f8;go_wp2;go_quiet (fail);rename_i nq;have Z:=Bc (Ba O _ (nb nq));clear O;go_wp2_with fail;refine Qm (Ba Z) ?_;rintro L ⟨ta,tc,h0,F⟩;have Y:=Bc (Lh F);clear Z F;go_wp2;go_end0;exact⟨rfl,_,Ba Y,by rw[<- Ba HE ()];simp[Br.d,Br.thing,Br.put]⟩
  have l3:(op==15)=false:=Fm;by_cases j8:op=16
  ·subst j8;have f7:∃(s vs:TP) (q:Nat) (b7:TP),0<=n/\n.toNat<k.E.T.length/\o.st=s++(2,(q:Int))::vs/\Hw k.E.T M.d.ts vs (k.E.all n)=true/\(∀v∈vs,It M.d.ts.length v)/\0<q/\M.d.ts[q]?=some ⟨n,false,b7⟩/\M.d.with (M.d.ts.set q ⟨n,true,vs⟩) ⟨o.m,Ch k.E o,o.lo,s⟩ (r.map Prod.fst)=d':=by
    rw[<- Ba a0 ()];cases hD using Bp.el with
    | init s vs q b7 e n0 nl d5 c4 hw q0 hq=>exact⟨s,vs,q,b7,n0,nl,d5,c4,hw,q0,hq,rfl⟩
    | push hp=>omega
    | _=>omega
   obtain⟨s,vs,q,b7,n0,nl,d5,c4,hw,q0,hq,f9⟩:=f7;obtain⟨j,rfl⟩:=Bvk n0;simp only[Bxx,Bvn]at nl hq f9 c4;have d6:M.d.ts=M.ts.map Prod.fst:=rfl;have b2:q<M.ts.length:=by
    have:=(List.getElem?_eq_some_iff.1 hq).1;rw[d6,Bvr]at this;exact this
   have hx:M.ts[q]=(⟨(j:Int),false,b7⟩,M.ts[q].2):=by
    rw[d6,Bv8,Ws b2]at hq;exact Bxd (Option.some.inj hq) rfl
   have hT:Cw k.f.l=k.E.T:=K.T;have j9:j<k.f.l.length:=by
    have e1:=congrArg List.length K.l;rw[Bvr]at e1;rw[e1,Yx];exact nl
   have j6:=R.st;have j7:=R.ts;have O:=Bc (fun (A:TW) (hb:Bl V A)=>Bo9 k (M.on k o lv sv r) _ ⟨o.m,Ch k.E o,o.lo,o.st⟩ lv sv r j q s vs b7 M.ts[q].2 A K.f (J.below hb) rfl Bd (by show o.st.length<=1000;omega) d5 j9 (by rw[hT,K.l];show Hw k.f.T _ _ _=true;rw[K.T];exact c4) (fun v k0 h2=>by
    rcases hw v k0 with z|z | z
    ·rw[z]at h2;simp at h2
    ·omega
    rw[d6,Bvr]at z;exact z.2) q0 b2 hx (by show M.ts.length<=1000;omega))
   have HE:=Bc (fun (_:Unit)=>f9);clear hD a3 HP hv hj J a0 f9 hT hx b2 d6 hq hw c4 d5;go_wp2;go_quiet (fail);rename_i nq;have Z:=Bc (Ba O _ (nb nq));clear O;go_wp2_with fail;refine Qm (Ba Z) ?_;rintro L ⟨h0,v9,F⟩;have Y:=Bc (Lh F);clear Z F;go_wp2;go_end0;exact⟨rfl,_,Ba Y,by rw[<- Ba HE ()];simp[Br.d,Br.withTs,Br.put,Cs.with,Byj]⟩
  have l4:(op==16)=false:=Fm;have O:=Bc (fun (A:TW) (hb:Bl V A)=>Zq K R (J.below hb) g3 hv Bd hj hD);clear hD a3 HP hv hj J;go_wp2;go_quiet (fail);rename_i nq;have Z:=Bc (Ba O _ (nb nq));clear O;go_wp2_with fail;refine Qm (Ba Z) ?_;rintro L ⟨M9,F,e9⟩;have Y:=Bc (Lh F);have b0:=Bc (fun (_:Unit)=>e9);clear Z F e9;go_wp2;go_end0;exact⟨rfl,_,Ba Y,by rw[Ba b0 (),Ba a0 ()]⟩
def Bpl{E:Cr}{d d':Cs}(h:Gh E d d'):∃(o:Ca) (r:List Ca) (s a:TP),d.os=o::r/\o.m<E.ms.length/\o.p<(E.meth o.m).code.length/\o.st=s++a/\Hw E.T d.ts a (Cu (Cq E.cs) E.ms (E.meth o.m).result ((E.meth o.m).code.getD o.p 0) (Cd.atI (E.meth o.m).code ((o.p:Int)+1)))=true/\(∀v∈a,It d.ts.length v)/\((∃t:Nat,0<t/\t<d.ts.length/\Dn E d ((E.meth o.m).code.getD o.p 0) (Cd.atI (E.meth o.m).code ((o.p:Int)+1)) a=(t:Int)/\(∀q∈o::r,q.m<E.ms.length/\(Gz E.T (Cc d.ts t).cl q.p (E.meth q.m).handlers≠none->1<=(E.meth q.m).stack))/\d'=Ga E (t:Int) (Cc d.ts t).cl ⟨d.os,d.ts,d.made,d.read,d.out,d.steps+1,d.status,d.value⟩ (⟨o.m,o.p,o.lo,s⟩::r))\/(Dn E d ((E.meth o.m).code.getD o.p 0) (Cd.atI (E.meth o.m).code ((o.p:Int)+1)) a=0/\Bp E ⟨⟨o.m,o.p,o.lo,s⟩::r,d.ts,d.made,d.read,d.out,d.steps+1,d.status,d.value⟩ ⟨o.m,o.p,o.lo,s⟩ r ((E.meth o.m).code.getD o.p 0) (Cd.atI (E.meth o.m).code ((o.p:Int)+1)) a d')):=by
 cases h using Gh.el with
 | thrown o r s a t h1 h2 h3 h4 h5 h6 h7 h8 h9 h10=>exact⟨o,r,s,a,h1,h2,h3,h4,h5,h6,.inl ⟨t,h7,h8,h9,h10,rfl⟩⟩
 | does o r s a d' h1 h2 h3 h4 h5 h6 h7 h8=>exact⟨o,r,s,a,h1,h2,h3,h4,h5,h6,.inr ⟨h7,h8⟩⟩
def Bfy{E:Cr}{n cl:Int}{d e:Cs}(h:(⟨[],d.ts,d.made,d.read,d.out,d.steps,d.status,d.value⟩:Cs)=⟨[],e.ts,e.made,e.read,e.out,e.steps,e.status,e.value⟩):∀l,Ga E n cl d l=Ga E n cl e l
 | []=>by
  simp only[Cs.mk.injEq,Byl]at h;obtain⟨a,b,c,f,g,_,_⟩:=h;unfold Ga;rw[a,b,c,f,g]
 | o::r=>by
  have m:=Bfy (E:=E) (n:=n) (cl:=cl) h r;simp only[Cs.mk.injEq,Byl]at h;obtain⟨a,b,c,f,g,i,j⟩:=h;unfold Ga;rw[m,a,b,c,f,g,i,j]
def Bjz(k:Db)(b:k.Ok)(m:RMV)(i p:Nat)(w:TW)(t:k.f.ok w)(v:i<k.f.ms.length)(g:Co m.code=(k.E.meth i).code)(z:(m.r1,m.r2)=(k.E.meth i).result)(j:p∈Cd.places (k.E.meth i).code)(T:TP)(A:Cu (Cq k.cs) k.ms (k.E.meth i).result ((k.E.meth i).code.getD p 0) (Cd.atI (k.E.meth i).code ((p:Int)+1))=T):Calls prog 98 #[k.f.val,m.val,.i (p:Int)] w fun e l=>∃a c,e=.r (.s a T.length c)/\TyR l (.s a T.length c) T/\Bl w l:=by
 have G:=b.good v;have q:=X2 G j;have D:=G.bd.code;have F:=Ur j;have I:m.code.size=(k.E.meth i).code.length:=by rw[<- g,Jo]
 have B:=V9 k.cs;have h:=Bke k.f m p w t Bd Bd (fun x C=>by
  have:=(b.fm.mt _ (show x.1.m∈k.ms by rw[<- b.eq];exact Bwa C)).bd.ps;omega) (by
  rw[g,Wi,g,b.flds,B];exact fun e=>q.fld e) (by
  rw[g,Wi,g,<- b.ml];exact fun e=>q.mth e)
 rw[g,Wi,g,b.flds,show (k.f.ms.map fun x=>x.1.m)=k.ms from b.eq,z,A]at h;exact h
def Bj6{F:List Rf.Fld}{ms:List Rd.Mth}{res:Int×Int}{op n:Int}:(op=10->1<(Cu F ms res op n).length)/\(op=17\/op=18\/op=21\/op=23\/op=19->0<(Cu F ms res op n).length):=by
 refine⟨fun e=>?_,fun e=>?_⟩
 ·subst e;exact Nat.lt_succ_self 1
 rcases e with rfl|rfl|rfl|rfl|rfl
 all_goals first|exact Nat.succ_pos _
def Bmh{E:Cr}{d e:Cs}(b:d.os.length=e.os.length)(c:d.made=e.made)(f:d.ts=e.ts)(op n:Int)(a:TP):Dn E d op n a=Dn E e op n a:=by
 unfold Dn;rw[b,c,f]
def Bt4{k:Db}{M e:Br}{o:Ca}{q a:TP}{r:List (Ca×Value×Value)}{m:RMV}{op n:Int}{d':Cs}{T:TP}(i:k.Ok)(F:Wl k.E M.d)(A:o.m<k.f.ms.length)(B:∀x∈r,x.1∈M.d.os)(C:r.length<=900)(D:q.length<=900)(G:e.ts=M.ts)(g:e.d=⟨⟨o.m,o.p,o.lo,q⟩::r.map Prod.fst,M.d.ts,M.d.made,M.d.read,M.d.out,M.d.steps+1,M.d.status,M.d.value⟩)(I:Co m.code=(k.E.meth o.m).code)(J:m.r1=(k.E.meth o.m).result.1)(K:o.p<(k.E.meth o.m).code.length)(L:(k.E.meth o.m).code.getD o.p 0=op)(N:Cd.atI (k.E.meth o.m).code ((o.p:Int)+1)=n) (O:Cu (Cq k.cs) k.ms (k.E.meth o.m).result op n=T)(Q:Hw k.f.T (M.ts.map Prod.fst) a T=true)(V:∀v∈a,It M.d.ts.length v)(Y:Bp k.E ⟨⟨o.m,o.p,o.lo,q⟩::r.map Prod.fst,M.d.ts,M.d.made,M.d.read,M.d.out,M.d.steps+1,M.d.status,M.d.value⟩ ⟨o.m,o.p,o.lo,q⟩ (r.map Prod.fst) op n a d'):Bhr k e ⟨o.m,o.p,o.lo,q⟩ r m a op n d':=by
 have f1:=F.ts;have f2:=F.md;have f3:=F.out;have hl:M.d.ts.length=M.ts.length:=by simp[Br.d]
 have g2:e.made=M.d.made:=congrArg Cs.made g;have g3:e.out=M.d.out:=congrArg Cs.out g;refine⟨i,⟨A,C,D,fun b Z=>?_,by rw[G];omega,Bd,by rw[g3];omega⟩,I,J,K,L,N,fun h7 a3=>?_,by rw[g];exact Y⟩
 ·have:=F.each _ (B b Z);exact⟨Bd,by rw[<- i.ml];exact this.1⟩
 have a0:T=[(1,0),(1,0)]:=by
  rw[<- O];unfold Cu;rw[Sp Bd]
 subst a0;obtain⟨c,j⟩:=Bcu Q;have e0:=j 0 (by rw[c];simp) Fr;have e1:=j 1 (by rw[c];simp) Fr;have l:∀z∈a,J3 k.f.T (M.ts.map Prod.fst) z (1,0)=true->-2147483648<=z.2/\z.2<=2147483647:=fun z hz h=>by
  have t:z.1=1:=by
   unfold J3 at h;rw[Sp rfl]at h;simpa using h
  rcases V z hz with b|b | b
  ·rw[b]at t;simp at t
  ·exact b.2
  omega
 have a1:Cg a=a[0]'(by rw[c];simp):=by
  show a.getD 0 (0,0)=_;rw[Th,Ws (by rw[c];simp)];rfl
 have a2:Ib a=a[1]'(by rw[c];simp):=by
  show a.getD 1 (0,0)=_;rw[Th,Ws (by rw[c];simp)];rfl
 rw[a1,a2];exact⟨l _ (Bvh _) e0,l _ (Bvh _) e1⟩
def Vo (mb:Nat)(cs:TV):Rw:=⟨109,12,.slice (some ⟨mb,0,none⟩) 1 1,1,cs⟩
theorem X3{k:Db}{M:Br}{X:List Rw}{w:World}{u:Nat}{e:List Value}(h:Bm k M X w)(f:Vo u e∈X){j:Nat}{i:Value}(b:e[j]?=some i):w.cell? ⟨u,j,none⟩=some i:=by
 have c:w.ownsRow k.w0.heap.size 109 12 (.slice (some ⟨u,0,none⟩) 1 1) 1 e:=h.row (Vo u e) (by simp[f]);rw[World.ownsRow.cellAt c j (by have:=c.1;have:=(List.getElem?_eq_some_iff.1 b).1;omega),b]
def Br.tick(M:Br):Br:=⟨M.os,M.ts,M.made,M.read,M.out,M.steps+1,M.status,M.value,M.oa,M.oc,M.ta,M.tc,M.xa,M.xc⟩
def Buy{k:Db}{M:Br}{X:List Rw}{w:TW}(h:Bm k M X w):Bm k M.tick X (w.setCell (.a k.B 12) (.i ((M.steps:Int)+1))):=by
 have b:=Own.cell (i:=0) h Hd 12 (.i ((M.steps:Int)+1));unfold Bm Br.tick Br.rows Br.cells;simp only[Bzh];exact b
def Bl2(k:Db)(M:Br)(X:List Rw)(d':Cs)(w:TW)(ok:k.Ok)(h:Bm k M X w)(F:Wl k.E M.d)(hS:Gh k.E M.d d'):Calls prog 62 #[.q k.B 0] w fun e b=>e=.r (.tuple #[])/\∃M',Bm k M' X b/\M'.d=d':=by
 obtain⟨o,r',s,a,a7,hm,hp,g3,b0,hW,hH⟩:=Bpl hS;obtain⟨lv,sv,r,hM,rfl⟩:∃lv sv r,M.os=(o,lv,sv)::r/\r.map Prod.fst=r':=by
  have e:M.d.os=M.os.map Prod.fst:=rfl;rw[e]at a7;cases hx:M.os with
  | nil=>rw[hx]at a7;cases a7
  | cons x l =>
   rw[hx]at a7;simp only[Bwm,List.cons.injEq]at a7;obtain⟨x1,x2,x3⟩:=x;obtain⟨rfl,rfl⟩:=a7;exact⟨x2,x3,l,rfl,rfl⟩
 have b3:o.m<k.f.ms.length:=by rw[<- ok.ml];exact hm
 have d6:=F.top _ _ a7;have k1:r.length+1<=800:=by
  have:=F.os;rw[a7]at this;simpa using this
 have k2:o.st.length<=800:=(F.each o (by rw[a7];simp)).2;obtain⟨la,lc,g4⟩:=Bg (h.lrow hM);obtain⟨sa,sc,g5⟩:=Bg (h.srow hM);simp only at g4 g5;subst g4 g5;generalize k3:o.lo.length=ln at *;generalize k4:o.st.length=sn at *;obtain⟨g,hg,c6,c7,c0,c1,c2,c3,-⟩:=Jn h hM;obtain⟨ym,G,d7,a5,g6,c8⟩:=RFl.mth (h.fok ok.f) b3;have b1:w.C k.B 1 (.s (.p G) k.f.ms.length k.f.c2):=h.sl d7 Hd;have lB:=h.ltB;have em:=ok.meth b3;have b2:Co ym.code=(k.E.meth o.m).code:=by rw[em];exact c8.code
 have c9:(ym.r1,ym.r2)=(k.E.meth o.m).result:=by rw[em];exact Bxd c8.r1 c8.r2
 have d8:=Ua g6;obtain⟨K,L,N,O,Q,V,Y,Z,st,I,ha,a0,hc,ma,ml,mc,a2,a3⟩:=ym;simp only at b2 c9 d8;have k5:I.size=(k.E.meth o.m).code.length:=by rw[<- b2,Jo]
 have k6:=(ok.good b3).bd.code;obtain⟨T,hT⟩:∃T,Cu (Cq k.cs) k.ms (k.E.meth o.m).result ((k.E.meth o.m).code.getD o.p 0) (Cd.atI (k.E.meth o.m).code ((o.p:Int)+1))=T:=⟨_,rfl⟩;have d9:=fun b (h':k.f.ok b)=>Bjz k ok ⟨K,L,N,O,Q,V,Y,Z,st,I,ha,a0,hc,ma,ml,mc,a2,a3⟩ o.m o.p b h' b3 b2 c9 d6 T hT;simp only[RMV.val,RFl.val,d7]at d9;have b5:=fun b=>Yq ⟨K,L,N,O,Q,V,Y,Z,st,I,ha,a0,hc,ma,ml,mc,a2,a3⟩ o.p b (show o.p<I.size by omega) (show I.size<=100000 by omega);rw[Wi]at b5;simp only[RMV.val]at b5;rw[b2]at b5;have d0:(I[o.p].toNat:Int)=(k.E.meth o.m).code.getD o.p 0:=by rw[<- Sd _ _ (show o.p<I.size by omega),b2]
 have k7:-1<=Cd.atI (k.E.meth o.m).code ((o.p:Int)+1)/\Cd.atI (k.E.meth o.m).code ((o.p:Int)+1)<=255:=by
  rw[<- b2,<- Wi];exact Rf.at_bd _ _
 generalize g7:(k.E.meth o.m).code.getD o.p 0=op at *;generalize hn:Cd.atI (k.E.meth o.m).code ((o.p:Int)+1)=n at *;have i9:=Bc (fun (_:Unit)=>d0);have j0:=Bc (fun (_:Unit)=>g7);have HN:=Bc (fun (_:Unit)=>hn);clear d0 g7 hn;generalize k8:r.length=J at *;have k9:IntKind.i64.wrap (((J+1:Nat):Int)-1)=(J:Int):=by rw[show ((J+1:Nat):Int)-1=(J:Int) by omega];exact Eg _ Bd Bd
 have ri:(J:Int)<(J:Int)+1:=Bd;have l0:IntKind.i64.wrap ((J:Int)+1-1)=(J:Int):=by rw[show (J:Int)+1-1=(J:Int) by omega];exact Eg _ Bd Bd
 have l1:IntKind.i64.wrap (J:Int)=(J:Int):=Eg _ Bd Bd;have r0:(0:Int)<=(J:Int):=Bd;have mi:(o.m:Int)<(k.f.ms.length:Int):=Bd;have g8:=Bc d9;have j1:=Bc b5;have HF:=Bc F;have HH:=Bc hH;have g9:=Bc (Bxh b0 hW);have HT:=Bc (fun (_:Unit)=>hT);have j2:=Bc (fun (_:Unit)=>b2);have j3:=Bc (fun (_:Unit)=>c9);have h0:=Bc (fun (_:Unit)=>g3);have H:=Bc h;have HP:=Bc hp;have l2:=Bc d6;have l3:(o.p:Int)<(I.size:Int):=Bd;have kp:¬(I.size:Int)<=(o.p:Int):=Bd;have j4:=F.st;have l4:IntKind.i64.wrap ((M.steps:Int)+1)=(M.steps:Int)+1:=Eg _ Bd (by have:M.d.steps=M.steps:=rfl;omega);have l5:∀c:UInt8,IntKind.i64.wrap (c.toNat:Int)=(c.toNat:Int):=fun c=>Eg _ Bd (by have:=c.toNat_lt;omega);have f0:∀b:TW,Below (w.heap.size) w b->b.C k.B 7 (.s (.p g) (J+1) M.oc)/\b.C g (J*4) (.i (o.m:Int))/\b.C g (J*4+1) (.i (o.p:Int))/\b.C g (J*4+2) (.s la ln lc)/\b.C g (J*4+3) (.s sa sn sc):=fun b hb=>⟨QC hb lB c7,QC hb c6 c0,QC hb c6 c1,QC hb c6 c2,QC hb c6 c3⟩;clear d9 b5 F hH b0 hW hT b2 c9 g3 h g6 c8 em d6 a7 hS j4;go_in;go_wp2
 go_region_held3 (fun b=>b.C k.B 7 (.s (.p g) (J+1) M.oc)/\b.C g (J*4) (.i (o.m:Int))/\b.C g (J*4+1) (.i (o.p:Int))/\b.C g (J*4+2) (.s la ln lc)/\b.C g (J*4+3) (.s sa sn sc))
  (first|with_reducible exact f0 _ (Vm _ _).drew|with_reducible exact f0 _ (QN _).drew)
  (fail)
 have b6:Below (w.heap.size) w (w.alloc (O36 (o.m:Int) (o.p:Int) la ln lc sa sn sc)).drew:=(QN _).drew;have CO:(w.alloc (O36 (o.m:Int) (o.p:Int) la ln lc sa sn sc)).drew.heap[w.heap.size]?=some (O36 (o.m:Int) (o.p:Int) la ln lc sa sn sc):=Bf w (O36 (o.m:Int) (o.p:Int) la ln lc sa sn sc);generalize (w.alloc (O36 (o.m:Int) (o.p:Int) la ln lc sa sn sc)).drew=w1 at *;generalize d0:w.heap.size=ob at *;have h1:=Pk CO;have o0:w1.C ob 0 (.i (o.m:Int)):=(Bb CO 0).trans rfl;have o1:w1.C ob 1 (.i (o.p:Int)):=(Bb CO 1).trans rfl;have d1:=(b6.cell (p:=.a k.B 1) lB).trans b1;have l6:=b6.size;have j5:k.B<w1.heap.size:=Bd;have l7:G<w1.heap.size:=Bd;have f1:∀b:TW,Bl w1 b->b.C k.B 1 (.s (.p G) k.f.ms.length k.f.c2)/\b.C ob 0 (.i (o.m:Int))/\b.C G (o.m*12) (.i K)/\b.C G (o.m*12+1) (.i L)/\b.C G (o.m*12+2) (.s N O Q)/\b.C G (o.m*12+3) (.i V)/\b.C G (o.m*12+4) (.i Y)/\b.C G (o.m*12+5) (.i Z)/\b.C G (o.m*12+6) (.i st)/\b.C G (o.m*12+7) (.string I)/\b.C G (o.m*12+8) (.s ha a0 hc)/\b.C G (o.m*12+9) (.s ma ml mc)/\b.C G (o.m*12+10) (.i a2)/\b.C G (o.m*12+11) (.i a3):=fun b hb=>by
  have a6:=b6.trans (hb.mono Bd);obtain⟨q0,q1,q2,q3,q4,q5,q6,q7,q8,q9,qa,qb⟩:=d8;exact⟨QC hb j5 d1,QC hb h1 o0,QC a6 a5 q0,QC a6 a5 q1,QC a6 a5 q2,QC a6 a5 q3,QC a6 a5 q4,QC a6 a5 q5,QC a6 a5 q6,QC a6 a5 q7,QC a6 a5 q8,QC a6 a5 q9,QC a6 a5 qa,QC a6 a5 qb⟩
 clear f0 c7 c0 c1 c2 c3 d8 b1 CO;go_wp2
 go_region_held3 (fun b=>b.C k.B 1 (.s (.p G) k.f.ms.length k.f.c2)/\b.C ob 0 (.i (o.m:Int))/\b.C G (o.m*12) (.i K)/\b.C G (o.m*12+1) (.i L)/\b.C G (o.m*12+2) (.s N O Q)/\b.C G (o.m*12+3) (.i V)/\b.C G (o.m*12+4) (.i Y)/\b.C G (o.m*12+5) (.i Z)/\b.C G (o.m*12+6) (.i st)/\b.C G (o.m*12+7) (.string I)/\b.C G (o.m*12+8) (.s ha a0 hc)/\b.C G (o.m*12+9) (.s ma ml mc)/\b.C G (o.m*12+10) (.i a2)/\b.C G (o.m*12+11) (.i a3))
  (first|with_reducible exact f1 _ (Vm _ _).drew|with_reducible exact f1 _ (QN _).drew)
  (fail)
 have h3:Bm k M X w1:=(Ba H).below (cast (congrArg (Below · w w1) d0.symm) b6);have h5:=Own.var h3 #[.i K,.i L,.s N O Q,.i V,.i Y,.i Z,.i st,.string I,.s ha a0 hc,.s ma ml mc,.i a2,.i a3] 109;have b7:Bm k M (Vo w1.heap.size [.i K,.i L,.s N O Q,.i V,.i Y,.i Z,.i st,.string I,.s ha a0 hc,.s ma ml mc,.i a2,.i a3]::X) (w1.alloc (O12 K L N O Q V Y Z st I ha a0 hc ma ml mc a2 a3)).drew:=Own.drew (Own.mid h5);have h6:Bl w1 (w1.alloc (O12 K L N O Q V Y Z st I ha a0 hc ma ml mc a2 a3)).drew:=(QN _).drew;have e1:=(h6.cell (p:=.a ob 1) h1).trans o1;clear f1 o0 o1 d1 h3 h5 H b6 h6;generalize (w1.alloc (O12 K L N O Q V Y Z st I ha a0 hc ma ml mc a2 a3)).drew=w2 at *;generalize w1.heap.size=A at *;have m7:w2.C A 7 (.string I):=X3 b7 (Bv1 ..) (j:=7) rfl;have j6:w2.C k.B 12 (.i (M.steps:Int)):=b7.cell Hd;have j7:=b7.fz 12;have b4:=Buy b7;have H4:=Bc b4;clear b7 b4;go_wp2;have b4:=Ba H4;generalize w2.setCell (.a k.B 12) (.i ((M.steps:Int)+1))=w3 at *;have f2:∀b:TW,Bl w3 b->b.C k.B 0 (.s k.f.a1 k.f.l.length k.f.c1)/\b.C k.B 1 (.s (.p G) k.f.ms.length k.f.c2)/\b.C A 0 (.i K)/\b.C A 1 (.i L)/\b.C A 2 (.s N O Q)/\b.C A 3 (.i V)/\b.C A 4 (.i Y)/\b.C A 5 (.i Z)/\b.C A 6 (.i st)/\b.C A 7 (.string I)/\b.C A 8 (.s ha a0 hc)/\b.C A 9 (.s ma ml mc)/\b.C A 10 (.i a2)/\b.C A 11 (.i a3):=fun b hb=>by
  have hA:=b4.below hb;have D:∀{j:Nat}{u:TX},[.i K,.i L,.s N O Q,.i V,.i Y,.i Z,.i st,.string I,.s ha a0 hc,.s ma ml mc,.i a2,.i a3][j]?=some u->b.C A j u:=fun hj=>X3 hA (Bv1 ..) hj;exact⟨hA.cell Hd,hA.sl d7 Hd,D (j:=0) rfl,D (j:=1) rfl,D (j:=2) rfl,D (j:=3) rfl,D (j:=4) rfl,D (j:=5) rfl,D (j:=6) rfl,D (j:=7) rfl,D (j:=8) rfl,D (j:=9) rfl,D (j:=10) rfl,D (j:=11) rfl⟩
 have h7:=Bc ((b4.fok ok.f).below (Vm _ _).drew);clear b4 m7 j6 j7 e1
 go_region_held3 (fun b=>b.C k.B 0 (.s k.f.a1 k.f.l.length k.f.c1)/\b.C k.B 1 (.s (.p G) k.f.ms.length k.f.c2)/\b.C A 0 (.i K)/\b.C A 1 (.i L)/\b.C A 2 (.s N O Q)/\b.C A 3 (.i V)/\b.C A 4 (.i Y)/\b.C A 5 (.i Z)/\b.C A 6 (.i st)/\b.C A 7 (.string I)/\b.C A 8 (.s ha a0 hc)/\b.C A 9 (.s ma ml mc)/\b.C A 10 (.i a2)/\b.C A 11 (.i a3))
  (first|exact f2 w3.drew (Vm _ _).drew|exact f2 _ ((Vm _ _).drew.trans f3))
  (first|(go_at_call 98;refine(Ba g8 _ (Ba h7)).mono ?_;rintro e w7 ⟨wa,wc,rfl,i0,f3⟩))
 have h4:=(Own.drew (Ba H4)).below f3;have f4:=Ba HT ();obtain⟨b0,hW⟩:=Ba g9;have f5:∀v∈a,v.1=2->0<=v.2/\v.2<(M.ts.length:Int):=fun v hv h2=>by
  have hl:M.d.ts.length=M.ts.length:=by simp[Br.d]
  rcases hW v hv with z|z | z
  ·rw[z]at h2;simp at h2
  ·omega
  rw[hl]at z;exact z.2
 have d2:Hw k.f.T (M.ts.map Prod.fst) a T=true:=by
  rw[ok.T,<- f4];exact b0
 have j8:=Bc (fun (_:Unit)=>(Bcu d2).1);have HV:=Bc (Bbv k M.tick (Vo A [.i K,.i L,.s N O Q,.i V,.i Y,.i Z,.i st,.string I,.s ha a0 hc,.s ma ml mc,.i a2,.i a3]::X) o (.s la ln lc) (.s sa sn sc) r s a T wa wc w7 ok.f h4 hM (Ba h0 ()) Bd Bd i0 d2 f5);clear f2 f3 g8 h7 h4 i0 H4;go_wp2_with fail;refine(Ba HV).mono ?_;rintro e w8 ⟨va,vc,f6,rfl,h8⟩;have j9:w8.C k.B 15 (.bool false):=h8.cell Hd;have D:∀{j:Nat}{u:TX},[.i K,.i L,.s N O Q,.i V,.i Y,.i Z,.i st,.string I,.s ha a0 hc,.s ma ml mc,.i a2,.i a3][j]?=some u->w8.C A j u:=fun hj=>X3 h8 (Bv6 _ (Bv1 ..)) hj;have q0:w8.C A 0 (.i K):=D (j:=0) rfl;have q1:w8.C A 1 (.i L):=D (j:=1) rfl;have q2:w8.C A 2 (.s N O Q):=D (j:=2) rfl;have q3:w8.C A 3 (.i V):=D (j:=3) rfl;have q4:w8.C A 4 (.i Y):=D (j:=4) rfl;have q5:w8.C A 5 (.i Z):=D (j:=5) rfl;have q6:w8.C A 6 (.i st):=D (j:=6) rfl;have q7:w8.C A 7 (.string I):=D (j:=7) rfl;have q8:w8.C A 8 (.s ha a0 hc):=D (j:=8) rfl;have q9:w8.C A 9 (.s ma ml mc):=D (j:=9) rfl;have qa:w8.C A 10 (.i a2):=D (j:=10) rfl;have qb:w8.C A 11 (.i a3):=D (j:=11) rfl;have H8:=Bc h8;clear HV h8 D;go_wp2_with fail;refine Qm (Ba j1 _) ?_;intro w9 i1;have h9:=(Ba H8).below i1;have i2:w9.C A 7 (.string I):=X3 h9 (Bv6 _ (Bv1 ..)) (j:=7) rfl;obtain⟨M2,b8⟩:∃M2,M2=M.tick.put ((⟨o.m,o.p,o.lo,s⟩,.s la ln lc,f6)::r):=⟨_,rfl⟩;rw[<- b8]at h9;have a8:M2.os=(⟨o.m,o.p,o.lo,s⟩,.s la ln lc,f6)::r:=by rw[b8];rfl
 have a9:M2.ts=M.ts:=by rw[b8];rfl
 have ed:M2.d=⟨⟨o.m,o.p,o.lo,s⟩::r.map Prod.fst,M.d.ts,M.d.made,M.d.read,M.d.out,M.d.steps+1,M.d.status,M.d.value⟩:=by rw[b8];rfl
 have et:Dn k.E M2.d op n a=Dn k.E M.d op n a:=Bmh (by rw[ed];show _=(M.os.map Prod.fst).length;rw[hM];simp) (by rw[ed]) (by rw[ed]) op n a;have tm:=Bj6 (F:=Cq k.cs) (ms:=k.ms) (res:=(k.E.meth o.m).result) (op:=op) (n:=n);have f7:=Ba j8 ();rw[f4,<- f7]at tm;have i3:(Cg a).1=2->0<=(Cg a).2/\(Cg a).2<(M2.ts.length:Int):=by
  rw[a9];cases a with
  | nil=>intro e;exact absurd e Ck
  | cons z l=>exact f5 z (Bv1 ..)
 have HX:Hid (∀x∈r,x.1∈M.d.os):=fun x hx=>by
  show x.1∈M.os.map Prod.fst;rw[hM];exact Bwa (Bv6 _ hx)
 have d3:=Bc (Bhu k M2 (Vo A [.i K,.i L,.s N O Q,.i V,.i Y,.i Z,.i st,.string I,.s ha a0 hc,.s ma ml mc,.i a2,.i a3]::X) op n a va vc w9 ok h9 tm.1 tm.2 i3);obtain⟨R,hR⟩:∃R,Dn k.E M2.d op n a=R:=⟨_,rfl⟩;rw[hR]at d3;have HR:Hid (∀_:Unit,Dn k.E M.d op n a=R):=fun _=>by rw[<- et];exact hR
 have d4:=Bc (fun (_:Unit)=>ed);have HA:=Bc (Bxh d2 hW);have HL:=Bc (fun (_:Unit)=>f7);have f8:=Bc (Bxh a8 a9);have H9:=Bc h9;clear H8 i1 hR et tm i3 ed q0 q1 q2 q3 q4 q5 q6 q7 q8 q9 qa qb b0 hW d2 f7 f4 b8 a9 f5 hM a8 j9 h9 g9;go_wp2_with fail;rw[Ba i9 ()];refine Qm (Ba d3) ?_;intro a4 f9;have b9:=(Ba H9).below f9;obtain⟨a8,a9⟩:=Ba f8;have F:=Ba HF;have hx:∀x∈r,x.1∈M.d.os:=Ba HX;rcases Ba HH with ⟨t,t0,tl,th,g0,hd⟩|⟨i4,hD⟩
 ·have g1:R=(t:Int):=by rw[<- Ba HR (),th]
  subst g1;have hl:M.d.ts.length=M.ts.length:=by simp[Br.d]
  have i5:t<M2.ts.length:=by rw[a9];omega
  have i6:M2.ts[t].1.cl=(Cc M.d.ts (t:Int)).cl:=by
   have e1:M.d.ts=M.ts.map Prod.fst:=rfl;rw[e1,Vu (show t<M.ts.length by omega)];simp only[a9]
  have HC:=Bc (Bjx k M2 _ t a4 ok b9 i5 (by rw[a8];simp;omega) _ i6 (fun x d5=>by
   rw[a8]at d5;rcases List.mem_cons.1 d5 with rfl|d5
   ·have:=g0 o (Bv1 ..);exact⟨b3,this.2⟩
   have:=g0 x.1 (Bv6 _ (Bwa d5));exact⟨by rw[<- ok.ml];exact this.1,this.2⟩))
  have i7:Ga k.E (t:Int) (Cc M.d.ts (t:Int)).cl M2.d (M2.os.map Prod.fst)=d':=by
   rw[hd,a8,Ba d4 ()];refine Bfy ?_ _;rfl
  rw[i7]at HC;have kt:(0:Int)<(t:Int):=Bd;clear b9 f9 H9 d3 HR d4 HA f8 F HF HH g0 hd th i6 i5 i7 a8 a9 hl i2;go_wp2_with fail;refine Qm (Ba HC) ?_;rintro k0 ⟨M9,c4,c5⟩;have g2:=Bc (Lh (Lh c4));have HE:=Bc (fun (_:Unit)=>c5);clear HC c4 c5;go_wp2;refine Bwy (Bw9 rfl _ _ _) rfl ?_;exact⟨rfl,M9,Ba g2,Ba HE ()⟩
 have g1:R=0:=by rw[<- Ba HR (),i4]
 subst g1;obtain⟨b0,hW⟩:=Ba HA;have i8:s.length<=900:=by
  have:=congrArg List.length (Ba h0 ());simp at this;omega
 have hl:M.d.ts.length=M.ts.length:=by simp[Br.d]
 have P:Bhr k M2 ⟨o.m,o.p,o.lo,s⟩ r ⟨K,L,N,O,Q,V,Y,Z,st,I,ha,a0,hc,ma,ml,mc,a2,a3⟩ a op n d':=Bt4 ok F b3 hx Bd i8 a9 (Ba d4 ()) (Ba j2 ()) (congrArg Prod.fst (Ba j3 ())) hp (Ba j0 ()) (Ba HN ()) (Ba HT ()) b0 hW hD;have HC:=Bc (Bmb k M2 (Vo A [.i K,.i L,.s N O Q,.i V,.i Y,.i Z,.i st,.string I,.s ha a0 hc,.s ma ml mc,.i a2,.i a3]::X) ⟨o.m,o.p,o.lo,s⟩ (.s la ln lc) f6 r ⟨K,L,N,O,Q,V,Y,Z,st,I,ha,a0,hc,ma,ml,mc,a2,a3⟩ a va vc op n d' a4 P b9 a8);simp only[RMV.val]at HC;have D:∀{j:Nat}{u:TX},[.i K,.i L,.s N O Q,.i V,.i Y,.i Z,.i st,.string I,.s ha a0 hc,.s ma ml mc,.i a2,.i a3][j]?=some u->a4.C A j u:=fun hj=>X3 b9 (Bv6 _ (Bv1 ..)) hj;have q0:a4.C A 0 (.i K):=D (j:=0) rfl;have q1:a4.C A 1 (.i L):=D (j:=1) rfl;have q2:a4.C A 2 (.s N O Q):=D (j:=2) rfl;have q3:a4.C A 3 (.i V):=D (j:=3) rfl;have q4:a4.C A 4 (.i Y):=D (j:=4) rfl;have q5:a4.C A 5 (.i Z):=D (j:=5) rfl;have q6:a4.C A 6 (.i st):=D (j:=6) rfl;have q7:a4.C A 7 (.string I):=D (j:=7) rfl;have q8:a4.C A 8 (.s ha a0 hc):=D (j:=8) rfl;have q9:a4.C A 9 (.s ma ml mc):=D (j:=9) rfl;have qa:a4.C A 10 (.i a2):=D (j:=10) rfl;have qb:a4.C A 11 (.i a3):=D (j:=11) rfl;clear b9 f9 H9 d3 HR d4 HA f8 F HF HH i4 a8 a9 P hD b0 hW D i8 hl i2 hx;go_wp2_with fail;refine Qm (Ba HC) ?_;rintro k0 ⟨M9,c4,c5⟩;have g2:=Bc (Lh c4);have HE:=Bc (fun (_:Unit)=>c5);clear HC c4 c5;go_wp2;go_end0;exact⟨rfl,M9,Ba g2,Ba HE ()⟩
def Br.more(M:Br)(t:Do)(ta:TA)(tc:Nat):Br:=⟨M.os,M.ts++[(t,.slice none 0 0)],M.made,M.read,M.out,M.steps,M.status,M.value,M.oa,M.oc,ta,tc,M.xa,M.xc⟩
def Bl8{k:Db}{M:Br}{X:List Rw}{w w9:TW}{c:Int}{b:Bool}{ta:TA}{tc:Nat}(h:Bm k M X w)(g:w9.ownsRow k.w0.heap.size 118 3 (.s ta (M.ts.length+1) tc) (M.ts.length+1) (M.ts.flatMap Iy++[.i c,.bool b,.s none 0 0])) (l:w.grownBy w9 (Value.slice M.ta M.ts.length M.tc).ownBlock)(m:(Value.slice ta (M.ts.length+1) tc).ownBlock=(Value.slice M.ta M.ts.length M.tc).ownBlock\/(Value.slice ta (M.ts.length+1) tc).ownBlock=some w.heap.size):w9.C k.B 8 (.s M.ta M.ts.length M.tc)/\w9.frozen? (.a k.B 8)=false/\Bm k (M.more ⟨c,b,[]⟩ ta tc) X (w9.setCell (.a k.B 8) (.s ta (M.ts.length+1) tc)):=by
 obtain⟨D,p,F,G,I,J,K,L,N,O,V,Y,Z,xc⟩:=M;simp only at g l m ⊢;have f:=Own.app (i:=2) h Hd g l m;have q:=Own.cell (i:=0) f Hd 8 (.s ta (p.length+1) tc);have t:=Own.add_nil q 240 2;refine⟨Own.see (i:=0) (j:=8) f Hd Hd,Own.free (i:=0) f Hd 8,?_⟩;have v:∀{a b c d e:Rw}{P Q R:List Rw}{w:TW},Own k.w0 (e::a::b::c::d::(P++Q++R)) w->Own k.w0 ((a::b::c::d::(P++(Q++[e])))++R) w:=fun {a b c d e P Q R w} z=>z.perm (by
  have:(a::b::c::d::(P++(Q++[e])))++R=(a::b::c::d::(P++Q))++e::R:=Fr;rw[this];have A:e::a::b::c::d::(P++Q++R)=e::((a::b::c::d::(P++Q))++R):=Fr;rw[A];exact List.perm_middle.symm)
 unfold Br.more Bm Br.rows;simp only[Bvx,Bwm,Byz,Bwl,Bwj,Bz9,Bxl,Up,Bvo,Bwn,Bvp];unfold Br.cells;simp only[Up,Bvo,Bwn,Bvp];exact v t
def Bai{E:Cr}{n B:Int}{d:Cs}:∀l,(Ga E n B d l).steps=d.steps
 | []=>rfl
 | o::r=>by
  unfold Ga
  split
  ·rfl
  exact Bai r
def Bj7{E:Cr}{d d':Cs}(h:Gh E d d'):d'.steps=d.steps+1:=by
 cases h using Gh.el with
 | thrown=>exact Bai _
 | does o r s a d' h1 h2 h3 h4 h5 h6 h7 hD=>cases hD using Bp.el<;>rfl
def Blt (k:Db)(f:Nat)(w:TW):Nat:=match w.cell? ⟨k.B,13,none⟩ with
 | some (.int _ s)=>if 0<=s then 0 else match w.cell? ⟨k.B,12,none⟩ with
  | some (.int _ n)=>f-n.toNat+1
  | _=>0
 | _=>0
def Bm.mr{k:Db}{M:Br}{X:List Rw}{w:TW}(h:Bm k M X w)(f:Nat):Blt k f w=if 0<=M.status then 0 else f-M.steps+1:=by
 have b:w.C k.B 13 (.i M.status):=h.cell Hd;have c:w.C k.B 12 (.i (M.steps:Int)):=h.cell Hd;unfold Blt;rw[b,c];simp
def Br.zero:Br:=⟨[],[],0,0,[],0,-1,0,none,0,none,0,none,0⟩
def Bu0(k:Db)(f:k.B=k.w0.heap.size)(b:Array Value)(c:b.toList=Br.zero.cells k):Bm k Br.zero [] (k.w0.alloc (.cells b 115)):=by
 have g:Own k.w0 [] k.w0:=⟨Fr,List.Pairwise.nil,Vm _ _⟩;have h:=((g.add_nil 3 1).add_nil 118 3).add_nil 171 4;have i:b.size=16:=by
  have:=congrArg List.length c;simpa[Br.cells] using this
 have e:=h.var b 115;rw[i,c,<- f]at e;exact e
def Bk8{u:Nat}(h:u<5):(N9.take (u+1+1)).map (fun t=>((t,.s none 0 0):Do×Value))=(N9.take (u+1)).map (fun t=>(t,.s none 0 0))++[(⟨(u:Int)+2,true,[]⟩,.s none 0 0)]:=by
 have:u=0\/u=1\/u=2\/u=3\/u=4:=Bd;rcases this with rfl|rfl|rfl|rfl|rfl<;>rfl
def Br7{E:Cr}{u:Nat}{d e:Cs}(h:Gm E u d e):(0<=d.status/\e=d)\/(d.status = -1/\u<=d.steps/\e=⟨d.os,d.ts,d.made,d.read,d.out,d.steps,1,d.value⟩)\/∃d',d.status = -1/\d.steps<u/\Wl E d/\Gh E d d'/\Gm E u d' e:=by
 cases h using Gm.el with
 | done _ h=>exact .inl ⟨h,rfl⟩
 | out _ h1 h2=>exact .inr (.inl ⟨h1,h2,rfl⟩)
 | step _ d' _ h1 h2 h3 h4 h5=>exact .inr (.inr ⟨d',h1,h2,h3,h4,h5⟩)
def Sw (q:Nat)(ta:TA)(tc:Nat):Br:=⟨[],(N9.take (q+1)).map (fun t=>(t,.slice none 0 0)),0,0,[],0,-1,0,none,0,ta,tc,none,0⟩
def Buh{u:Nat}(h:u<=5)(b:TA)(c:Nat):(Sw u b c).ts.length=u+1:=by
 unfold Sw;simp only[Bvr,Bxf];have:N9.length=6:=rfl;omega
def Bl6(k:Db)(w:TW)(O:k.w0=((w.alloc (O11 k.f.a1 k.f.l.length k.f.c1 k.f.a2 k.f.ms.length k.f.c2)).alloc (O32 k.en k.ia k.ins.length k.ic k.heap k.depth k.fuel)).alloc (O33 none 0 0 0 0 0))(hB:k.B=w.heap.size+3)(ok:k.Ok)(j t:Nat)(b1:k.en=(j:Int))(hj:j<k.f.ms.length)(b2:k.fuel=(t:Int))(e:Cs)(b3:Gm k.E t (Zb k.E j) e):Calls prog 24 #[k.f.val,.agg #[.i k.en,.s k.ia k.ins.length k.ic,.i k.heap,.i k.depth,.i k.fuel]] w fun r g=>∃xa xc,r=.r (.tuple #[.agg #[.s xa e.out.length xc,.i e.status,.i e.value,.i (e.steps:Int)],.bool false])/\Du g w.heap.size (.s xa e.out.length xc) e.out/\Bl w g:=by
 obtain⟨i0,v,b4,b5,b6⟩:=Bv4 Tryz.infoThing;have z:k.w0.heap.size=w.heap.size+3:=by rw[O];simp
 have a5:=Bu0 k (by rw[hB,z]) #[.s k.f.a1 k.f.l.length k.f.c1,.s k.f.a2 k.f.ms.length k.f.c2,.i k.en,.s k.ia k.ins.length k.ic,.i k.heap,.i k.depth,.i k.fuel,.s none 0 0,.s none 0 0,.i 0,.i 0,.s none 0 0,.i 0,.i (-1),.i 0,.bool false] Hd;have b7:Bl w k.w0:=by rw[O];exact(Bx w _ _).alloc Fm _
 simp only[RFl.val];rw[O]at a5;have c8:_=some (Value.slice none 0 0):=a5.cell (j:=8) Hd;rw[hB]at c8;have b8:=Bc (fun (_:Unit)=>hB);have HM:=Bc a5;have d6:=Bc b7;have s1:k.w0.heap[w.heap.size+1]?=some (O32 k.en k.ia k.ins.length k.ic k.heap k.depth k.fuel):=by rw[O];exact Bk (Bv w _ _) _
 have s2:k.w0.heap[w.heap.size+2]?=some (O33 none 0 0 0 0 0):=by
  have d7:((w.alloc (O11 k.f.a1 k.f.l.length k.f.c1 k.f.a2 k.f.ms.length k.f.c2)).alloc (O32 k.en k.ia k.ins.length k.ic k.heap k.depth k.fuel)).heap.size=w.heap.size+2:=Fr;rw[<- d7,O];exact Bf _ _
 have a9:=Bc (fun (_:Unit)=>z);have d8:=Bc (fun (_:Unit)=>b1);have d9:=Bc (fun (_:Unit)=>b2);clear a5 b7 O b1 b2 z hB;go_in;go_wp2_with (at_builtin;refine Bxg _ rfl _ _ 113 rfl k.w0.heap.size 118 i0 _ 3 40 Bzt v b4 b5 b6 rfl Ck _ _ [] rfl (Bvl _ _ _ _) ⟨w.heap.size+4,0,none⟩ 1 1 [.i 0,.bool false,.s none 0 0] rfl rfl ?c1 ?c2 ?c3 ?c4 ?c5 ?_)
 case c1=>exact Dv _ _ _ _ Fr
 case c2=>intro u Z;simp at Z;rcases Z with rfl|rfl|rfl<;>rfl
 case c3=>unfold maxLen;omega
 case c4=>omega
 case c5=>have:=Ba a9 ();simp;omega
 intro v' w2 G a0 _ a3;obtain⟨ta,tc,rfl⟩:=Bg G;obtain⟨m,F,I⟩:=Bl8 (c:=0) (b:=false) ((Ba HM).below (QN _)) G a0 (show (Value.slice ta 1 tc).ownBlock=(Value.slice none 0 0).ownBlock\/(Value.slice ta 1 tc).ownBlock=some _ from by simpa using a3);have m:w2.C k.B 8 (.s none 0 0):=m;rw[<- Ba b8 ()];have H3:=Bc I;clear G a0 a3 I c8 HM;go_wp2;have I:=Ba H3;have I:Bm k (Br.zero.more ⟨0,false,[]⟩ ta tc) [] (w2.setCell (.a k.B 8) (.s ta 1 tc)):=I;generalize w2.setCell (.a k.B 8) (.s ta 1 tc)=w3 at *
 go_loopw [7] (fun i wr=>∃q:Nat,q<=5/\i=.i ((q:Int)+2)/\∃ta tc,Hid (Bm k (Sw q ta tc) [] wr))
  (fun i _=>7-(intOf i).toNat)
 case atStart=>exact⟨0,Bd,rfl,ta,tc,I⟩
 case round=>
  clear I H3 m F;obtain⟨q,hq,rfl,A,D,HQ⟩:=hrel;have h:=Ba HQ;have p:=Buh hq A D;by_cases f0:q<5
  ·have c8:wr.C k.B 8 (.s A (q+1) D):=by rw[<- p];exact h.cell Hd
   have b0:=h.hrow;rw[p]at b0;have kq:(q:Int)+2<7:=Bd;have g0:IntKind.i64.wrap ((q:Int)+2+1)=(q:Int)+2+1:=Eg _ Bd Bd;have Q:=h.low.size;have HL:=Bc (fun (_:Unit)=>p);clear h p;go_wp2_with (at_builtin;refine Bxg _ rfl _ _ 113 rfl k.w0.heap.size 118 i0 _ 3 40 Bzt v b4 b5 b6 rfl Ck _ _ _ rfl (World.ownsRow.alloc b0 _) ⟨wr.heap.size,0,none⟩ 1 1 [.i ((q:Int)+2),.bool true,.s none 0 0] rfl rfl ?c1 ?c2 ?c3 ?c4 ?c5 ?_)
   case c1=>exact Dv _ _ _ _ rfl
   case c2=>intro u Z;simp at Z;rcases Z with rfl|rfl|rfl<;>rfl
   case c3=>unfold maxLen;omega
   case c4=>omega
   case c5=>simp;omega
   intro v' w4 G a0 _ a3;obtain⟨J,K,rfl⟩:=Bg G;have p:=Ba HL ();have hv:=Bl8 (c:=(q:Int)+2) (b:=true) (w9:=w4) (ta:=J) (tc:=K) ((Ba HQ).below (QN _)) (by rw[p];exact G) (by rw[p];exact a0) (by rw[p];show (Value.slice J (q+1+1) K).ownBlock=(Value.slice A (q+1) D).ownBlock\/_;simpa using a3);rw[p]at hv;obtain⟨m,F,h4⟩:=hv;have m:w4.C k.B 8 (.s A (q+1) D):=m;have h5:Bm k (Sw (q+1) J K) [] (w4.setCell (.a k.B 8) (.s J (q+1+1) K)):=by
    have:Sw (q+1) J K=(Sw q A D).more ⟨(q:Int)+2,true,[]⟩ J K:=by
     unfold Sw Br.more;rw[Bk8 f0]
    rw[this];exact h4
   have H5:=Bc h5;clear h4 h5 G a0 a3 p b0 c8 HQ;go_wp2;go_roundw
   case rel=>exact⟨q+1,Bd,Lt,J,K,Ba H5⟩
   case measure=>simp[intOf];omega
  have q5:q=5:=Bd;subst q5;have kq:¬((5:Nat):Int)+2<7:=Bd;have b9:Bm k (Sw 5 A D) [Dc (.s none ([]:TP).length 0) []] wr:=Own.mid (X:=[]) (Own.add_nil h 240 2);have Q:=h.low;have z:=Ba a9 ();have L:wr.heap[w.heap.size+1]?=some (O32 k.en k.ia k.ins.length k.ic k.heap k.depth k.fuel):=(Q.block _ Bd).trans s1;have e0:wr.C (w.heap.size+1) 0 (.i k.en):=(Bb L 0).trans rfl;rw[Ba d8 ()]at e0;have f1:=(ok.good hj).rd.lo;have HC:=Bc (Zr k (Sw 5 A D) [] j (k.E.meth j).locals.toNat [] none 0 wr ok.f b9 hj (by rw[Bwo f1.1,ok.meth hj]) Fr Bd (by show (0:Nat)<=1000;omega));clear h b9 Q z L HQ p;go_wp2_with fail;refine(Ba HC).mono ?_;rintro e' w5 ⟨rfl,lv,oa,oc,h5⟩;have h6:=Lh h5;have hd:((Sw 5 A D).open (⟨j,0,[]++List.replicate ((k.E.meth j).locals.toNat-([]:TP).length) (0,0),[]⟩,lv,.s none 0 0) oa oc).d=Zb k.E j:=rfl;have c0:Hid (Gm k.E t ((Sw 5 A D).open (⟨j,0,[]++List.replicate ((k.E.meth j).locals.toNat-([]:TP).length) (0,0),[]⟩,lv,.s none 0 0) oa oc).d e):=by unfold Hid;rw[hd];exact b3
  have H6:=Bc h6;clear h5 h6 hd HC e0 b3;go_wp2
  go_loopw [41] (fun _ wr=>∃M,Hid (Bm k M [] wr)/\Hid (Gm k.E t M.d e))
   (fun _ wr=>Blt k t wr)
  case atStart=>exact⟨_,Ba H6,c0⟩
  case round=>
   clear H6 c0;obtain⟨M,H,HR⟩:=hrel;have h:=Ba H;have c6:wr.C k.B 13 (.i M.status):=h.cell Hd;have f2:wr.C k.B 15 (.bool false):=h.cell Hd;have f3:wr.C k.B 12 (.i (M.steps:Int)):=h.cell Hd;have z:=Ba a9 ();have L:wr.heap[w.heap.size+1]?=some (O32 k.en k.ia k.ins.length k.ic k.heap k.depth k.fuel):=(h.low.block _ Bd).trans s1;have e4:wr.C (w.heap.size+1) 4 (.i k.fuel):=(Bb L 4).trans rfl;rw[Ba d9 ()]at e4;have a6:=h.mr t;have c7:=Bc (fun (_:Unit)=>a6);have V:M.d.status=M.status:=rfl;have a7:M.d.steps=M.steps:=rfl;rcases Br7 (Ba HR) with ⟨N,g2⟩|⟨N,g2,g3⟩|⟨d',N,g2,g3,g4,g5⟩
   ·rw[V]at N;have ks:decide (M.status<0)=false:=Fm;have f4:wr.C k.B 11 (.s M.xa M.out.length M.xc):=h.cell Hd;have f5:wr.C k.B 14 (.i M.value):=h.cell Hd;have c9:wr.heap[w.heap.size+2]?=some (O33 none 0 0 0 0 0):=(h.low.block _ Bd).trans s2;have a8:w.heap.size+2≠k.B:=by have:=Ba b8 ();omega
    have hS:∀g:TW,g.heap[k.B]?=wr.heap[k.B]?->g.C k.B 11 (.s M.xa M.out.length M.xc)/\g.C k.B 13 (.i M.status)/\g.C k.B 14 (.i M.value)/\g.C k.B 12 (.i (M.steps:Int))/\g.C k.B 15 (.bool false):=fun g m=>⟨(Bvj (a:=⟨k.B,11,none⟩) m).trans f4,(Bvj (a:=⟨k.B,13,none⟩) m).trans c6,(Bvj (a:=⟨k.B,14,none⟩) m).trans f5,(Bvj (a:=⟨k.B,12,none⟩) m).trans f3,(Bvj (a:=⟨k.B,15,none⟩) m).trans f2⟩;obtain⟨x0,x1,x2,x3⟩:=cl4 c9;simp at x0 x1 x2 x3;have Q:=(Ba d6).trans (h.low.mono Bd);have d0:=D8 (base':=w.heap.size) h.xrow Bd;have a4:∀i,(Value.slice M.xa M.out.length M.xc).ownBlock=some i->i≠w.heap.size+1+1:=fun i v=>by
     have:=(h.xrow.lt i v).1;omega
    have d1:∀a b c d,((((wr.setCell (.a (w.heap.size+1+1) 0) a).setCell (.a (w.heap.size+1+1) 1) b).setCell (.a (w.heap.size+1+1) 2) c).setCell (.a (w.heap.size+1+1) 3) d).ownsRow w.heap.size 3 1 (.s M.xa M.out.length M.xc) M.out.length (M.out.map (Value.int .i64)):=fun a b c d=>Gs d0 (fun i v=>by
     rw[Bvg _ _ _ _ (by simpa using a4 i v),Bvg _ _ _ _ (by simpa using a4 i v),Bvg _ _ _ _ (by simpa using a4 i v),Bvg _ _ _ _ (by simpa using a4 i v)])
    have f6:=Bc d1;have f7:=Bc Q;have Y:=Bc (fun (_:Unit)=>g2);clear h a6 V a7 L z H HR g2 d0 a4 d1 Q;have y0:wr.C (w.heap.size+1+1) 0 (.s none 0 0):=x0;have y1:wr.C (w.heap.size+1+1) 1 (.i 0):=x1;have y2:wr.C (w.heap.size+1+1) 2 (.i 0):=x2;have y3:wr.C (w.heap.size+1+1) 3 (.i 0):=x3;have d2:wr.heap[w.heap.size+1+1]?=some (O33 none 0 0 0 0 0):=c9;obtain⟨z0,z1,z2,z3⟩:=fr4 d2;have lR:=Pk d2;clear x0 x1 x2 x3;go_wp2
    go_region_held3 (fun g=>g.C k.B 11 (.s M.xa M.out.length M.xc)/\g.C k.B 13 (.i M.status)/\g.C k.B 14 (.i M.value)/\g.C k.B 12 (.i (M.steps:Int))/\g.C k.B 15 (.bool false))
     (first|exact hS wr.drew rfl|exact hS _ ((Bvg _ _ _ _ (Bxc a8)).trans ((Bvg _ _ _ _ (Bxc a8)).trans ((Bvg _ _ _ _ (Bxc a8)).trans (Bvg _ _ _ _ (Bxc a8))))))
     (fail)
    go_wp2;refine tb (.tuple #[.agg #[.s M.xa M.out.length M.xc,.i M.status,.i M.value,.i (M.steps:Int)],.bool false]) (by simp[results,results24,go_sem,y0,y1,y2,y3]) ?_;refine⟨M.xa,M.xc,?_⟩;rw[Ba Y ()];exact⟨rfl,(Ba f6 _ _ _ _).drew,(((((Ba f7).setCell (by show w.heap.size<=w.heap.size+1+1;omega) _).setCell (by show w.heap.size<=w.heap.size+1+1;omega) _).setCell (by show w.heap.size<=w.heap.size+1+1;omega) _).setCell (by show w.heap.size<=w.heap.size+1+1;omega) _).drew⟩
   ·rw[V]at N;rw[a7]at g2;have ks:decide (M.status<0)=true:=by rw[N];rfl
    have kf:decide ((t:Int)<=(M.steps:Int))=true:=by simpa using g2
    have d3:=Own.cell (i:=0) h Hd 13 (.i 1);have h2:Bm k (M.fin 1 M.value) [] (wr.setCell (.a k.B 13) (.i 1)):=d3;have f8:=h.fz 13;have H2:=Bc (fun q=>h2.drewN q);have Y:=Bc (fun (_:Unit)=>g3);have f9:=Bc (fun q=>Bm.mr (h2.drewN q) t);clear h h2 d3 a6 V a7 g3 L z H HR;go_wp2;go_quiet (fail);rename_i nq;have g6:(wr.drewN nq).C k.B 13 (.i M.status):=c6;have g7:(wr.drewN nq).frozen? (.a k.B 13)=false:=f8;go_wp2;go_roundw
    case rel=>exact⟨_,Ba H2 nq,by unfold Hid;rw[Ba Y ()];exact .done _ (by show (0:Int)<=1;omega)⟩
    case measure=>
     have F:=Ba c7 ();rw[Pf Bd]at F;refine Bzq (Nat.le_of_eq (Ba f9 nq)) ?_;rw[F,Sp (by show (0:Int)<=1;omega)];omega
   rw[V]at N;rw[a7]at g2;have ks:decide (M.status<0)=true:=by rw[N];rfl
   have kf:decide ((t:Int)<=(M.steps:Int))=false:=Fm;have HS:=Bc (fun q=>Bl2 k M [] d' (wr.drewN q) ok (h.drewN q) g3 g4);have Y:=Bc (Bxh (Bj7 g4) g5);clear h a6 V g3 g4 g5 L z H HR;go_wp2;go_quiet (fail);rename_i nq;have d4:=Bc (Ba HS nq);clear HS;go_wp2_with fail;refine(Ba d4).mono ?_;rintro e' w6 ⟨rfl,M6,h6,e6⟩;have H6:=Bc h6;have d5:=Bc (fun (_:Unit)=>e6);clear d4 h6 e6;go_wp2;go_roundw
   case rel=>exact⟨M6,Ba H6,by unfold Hid;rw[Ba d5 ()];exact(Ba Y).2⟩
   case measure=>
    have F:=Ba c7 ();rw[Pf Bd]at F;have m:=(Ba H6).mr t;have e3:M6.steps=M.steps+1:=by
     have:=(Ba Y).1;rw[<- Ba d5 ()]at this;exact this
    refine Bzq (Nat.le_of_eq m) ?_;rw[F]
    split<;>omega
def Bg7{z:TI}{m:List Rd.Mth}:∀(l:List Rd.Mth) (k:Nat),Ho z m k l<0->∀(t:Nat) (b:Rd.Mth),l[t]?=some b->Ip z m (k+t) b=true
 | [],_,_,t,b,h=>by simp at h
 | x::l,k,h,t,b,hm=>by
  unfold Ho at h;by_cases g:Ip z m k x=false;·rw[Sp g]at h;omega
  rw[Pf g]at h;cases t with
  | zero =>
   obtain rfl:=Option.some.inj (show some x=some b from hm);simpa using g
  | succ t =>
   rw[show k+(t+1)=k+1+t by omega];exact Bg7 l (k+1) h t b hm
def Ba1{f:Rd.Mth->Int×Int}:∀(l:List Rd.Mth) (k:Nat),(Kl f k l).1=0->∀m∈l,(f m).1=0
 | [],_,_=>Fr
 | x::l,k,h=>by
  unfold Kl at h;by_cases g:(f x).1≠0;·rw[Sp g]at h;exact absurd h g
  rw[Pf g]at h;intro m b;rcases List.mem_cons.1 b with rfl|b
  ·simpa using g
  exact Ba1 l _ h m b
def Bem:∀{l:TI},I9 l=true->∀v∈l,-2147483648<=v/\v<=2147483647
 | [],_=>Fr
 | n::l,h=>by
  unfold I9 at h;by_cases b:n < -2147483648;·rw[Sp b]at h;cases h
  by_cases g2:2147483647<n;·rw[Pf b,Sp g2]at h;cases h
  rw[Pf b,Pf g2]at h;intro v c;rcases List.mem_cons.1 c with rfl|c
  ·omega
  exact Bem h v c
def Bup{D:TB}(h:(Gq D).1=0){z:TI}(c:Js z=true)(i l:Int):(⟨(Rd.read D).1.classes,(Rd.read D).1.methods,z,i,l⟩:Cr).Ok/\z.length<=1000:=by
 have e:=Og h;obtain⟨K,m,p⟩:=Ke _ e;unfold Js at c;by_cases g:20<z.length;·rw[Sp g]at c;cases c
 rw[Pf g]at c;refine⟨⟨K,Zy D (Xs e),?_,fun j q=>?_,Bem c⟩,Bd⟩
 ·unfold Gq Wv at h;rw[Pf (by rw[e];simp)]at h;exact Ba1 _ _ h
 have b:=e;unfold Rf.formed at b;by_cases f:(Rf.classed D).1≠0;·rw[Sp f]at b;exact absurd b f
 rw[Pf f,m,p]at b;unfold Tx at b;by_cases g2:0<=Ho (Tr.tree (Rd.read D).1.classes) (Rd.read D).1.methods 0 (Rd.read D).1.methods;·rw[Sp g2]at b;simp at b
 have t:Ho (Tr.tree (Rd.read D).1.classes) (Rd.read D).1.methods 0 (Rd.read D).1.methods<0:=Bd;have:=Bg7 _ 0 t j _ (Bab (E:=⟨(Rd.read D).1.classes,(Rd.read D).1.methods,z,i,l⟩) q);rw[Bvp]at this;exact this
def Bkg(s:ByteArray)(w:TW)(G:s.size<=maxLen)(h:(Rf.formed s.data.toList).1=0):Calls prog 22 #[.string s] w fun e q=>∃(f:RFl) (x y:Int),e=.r (.tuple #[f.val,.i 0,.i x,.i y])/\f.ok q/\f.l.map Prod.fst=Rf.given++(Rd.read s.data.toList).1.classes/\f.ms.map (fun z=>z.1.m)=(Rd.read s.data.toList).1.methods/\Bl w q:=by
 obtain⟨K,t,v⟩:=Ke _ h;have I:=Bhj s.data.toList;have a0:=Bjq s.data.toList;refine(Bh0 s w G).mono ?_;rintro e w1 ⟨J,n1,L,N,n2,O,rfl,Q,V⟩;obtain⟨A,B,j,C,D,F⟩:=Q h;obtain⟨Y,Z,g⟩:=Bg C.1;simp only[Value.slice.injEq]at g;obtain⟨rfl,rfl,rfl⟩:=g;obtain⟨Y,Z,g⟩:=Bg F.1;simp only[Value.slice.injEq]at g;obtain⟨rfl,rfl,rfl⟩:=g;have a3:A.length=7+(Rf.fil s.data.toList).1.length:=by have:=congrArg List.length j;simp[Rf.given]at this;omega
 have a4:B.length=(Rf.fil s.data.toList).2.1.length:=by have:=congrArg List.length D;simpa using this
 have l6:=K.l6;have m6:=K.m6;rw[<- t]at l6;rw[<- v,Bvr]at m6;refine⟨⟨J,L,N,O,w.heap.size,A,B⟩,_,_,by rw[h];rfl,⟨Ls,Ls,Ls,Bta j (p:=fun c=>c.fields.length<=1000) (by
   intro p b;rcases List.mem_append.1 b with b|b
   ·simp[Rf.given]at b;rcases b with rfl|rfl|rfl|rfl|rfl|rfl|rfl<;>simp
   exact I.2 p b),C,F⟩,by rw[<- t];exact j,?_,V⟩
 rw[<- v,<- D,Bz6];rfl
def Bpr(s:ByteArray)(f:RFl)(p:Int)(q:TI)(h d v:Int)(t:TA)(A:Nat)(w:TW)(C:(Gq s.data.toList).1=0)(N:f.ok w)(O:f.l.map Prod.fst=Rf.given++(Rd.read s.data.toList).1.classes)(D:f.ms.map (fun z=>z.1.m)=(Rd.read s.data.toList).1.methods)(Q:Jk w t q)(V:Hi (Rd.read s.data.toList).1.methods p q h d v=0) (R:Rk)(B:Wp (Rj (Yc (Rd.read s.data.toList).1.classes (Rd.read s.data.toList).1.methods q h d) v.toNat p)=R):Calls prog 24 #[f.val,.agg #[.i p,.s t q.length A,.i h,.i d,.i v]] w fun r F=>∃G I,r=.r (.tuple #[.agg #[.s G R.out.length I,.i R.status,.i R.value,.i R.steps],.bool false])/\Du F w.heap.size (.s G R.out.length I) R.out/\Bl w F:=by
 obtain⟨g,z2,Y,z4,Z,z6,z7,z8⟩:=Zh V;obtain⟨ok,a0⟩:=Bup C z8 h d;obtain⟨K,-,-⟩:=Ke _ (Og C);unfold Kh at g;by_cases J:p<0;·rw[Sp J]at g;cases g
 rw[Pf J]at g;by_cases g2:((Rd.read s.data.toList).1.methods.length:Int)<=p;·rw[Sp g2]at g;cases g
 rw[Pf g2]at g;unfold Mw at g;simp only[Bwk,Bwp]at g;obtain⟨j,rfl⟩:=Bvk (show 0<=p by omega);obtain⟨n,rfl⟩:=Bvk z6;simp only[Bxx,Bvn]at g B ⊢;obtain⟨e,a3,he⟩:=Bm0 ok Y Z n Bd (k:=j) (by show j<(Rd.read s.data.toList).1.methods.length;omega) g.1 (Bwc g.2);have a4:j<f.ms.length:=by
  have:=congrArg List.length D;rw[Bvr]at this;omega
 rw[he]at B;subst B;refine Bl6 ⟨w.heap.size+3,((w.alloc (O11 f.a1 f.l.length f.c1 f.a2 f.ms.length f.c2)).alloc (O32 (j:Int) t q.length A h d (n:Int))).alloc (O33 none 0 0 0 0 0),f,(Rd.read s.data.toList).1.classes,(Rd.read s.data.toList).1.methods,(j:Int),t,A,q,h,d,(n:Int)⟩ w rfl rfl ?_ j n rfl a4 rfl e a3;have L:∀a b c,Bl w (((w.alloc a).alloc b).alloc c):=fun a b c=>(Bx w a b).alloc Fm c;exact⟨K,N.below (L _ _ _),O,D,Q.below (L _ _ _),a0⟩
def Bkd(w:TW):Calls prog 52 #[] w fun e f=>e=.r (.bool true)/\Bl w f:=by
 have b:=fun w=>Be6 P9 w Ck;have c:=fun w=>Bi1 Bbs w Ck;rw[Bqz,Bvb]at c;rw[Bes]at b;generalize (Gq P9.data.toList).2.1=l at *;generalize (Gq P9.data.toList).2.2=m at *;simp only[P9,Bbs]at b c;have g:=Bc b;have h:=Bc c;clear b c;go_in;go_wp2_with fail;refine Qm (Ba g _) ?_;intro p i;go_wp2_with fail;refine Qb (Ba h _) i ?_;intro q s j;go_wp2;go_ret;exact⟨Fr,j⟩
def Bpo:Ts P9.data.toList 0 [2] 0 1 20=⟨[2,1],0,0,20,0⟩:=by
 unfold Ts;rw[Pf (by rw[Bes];simp),Pf (by decide +kernel)];exact @of_decide_eq_true _ (Rk.dec _ _) (by decide +kernel)
def Bka(w:TW):Calls prog 19 #[] w fun e A=>e=.r (.bool true)/\Bl w A:=by
 have j:=fun w B C b=>Bju P9 0 [2] 0 1 20 B C w Ck Ck b _ Bpo;simp only[P9]at j;have D:=Bc j;have F:=Bc Bkd;clear j;go_in;go_wp2_with fail;refine Qm (Ba F _) ?_;intro G q;have l:=Bf G (O4 2);have s:=q.alloc q.size (O4 2);go_wp2_with fail;refine(Ba D _ _ _ ?_).mono ?_
 ·intro i b;refine⟨_,0,rfl,Pk l,?_⟩;have:i=0:=by simp at b;omega
  subst this;exact(Bb l 0).trans rfl
 rintro e c ⟨f,g,rfl,t,v⟩;have z:=QB s v;have h:=Bv c (O33 f 2 g 0 0 20) (O37 2 1);have m:=Bx c (O33 f 2 g 0 0 20) (O37 2 1);have I:=QB z m;have J:=Bc (Af [2,1] 0 0 20 f (.p (c.heap.size+1)) g 2 ((c.alloc (O33 f 2 g 0 0 20)).alloc (O37 2 1)) ((Jk.of_ints t).below m) (by
  intro i b;refine⟨_,0,rfl,Pk h,?_⟩;have:i=0\/i=1:=by simp at b;omega
  rcases this with rfl|rfl
  ·exact(Bb h 0).trans rfl
  exact(Bb h 1).trans rfl) Ck)
 clear l s z h m t v;go_wp2_with fail;refine Qb (Ba J) I ?_;intro L N K;go_wp2;go_ret;exact⟨Fr,K⟩
def Bmm(s:ByteArray)(g:Int)(c:TI)(h d j:Int)(t:TA)(A:Nat)(w:TW)(hs:s.size<=maxLen)(hl:c.length<=maxLen)(hi:Jk w t c):Calls prog 5 #[.string s,.agg #[.i g,.s t c.length A,.i h,.i d,.i j]] w fun e p=>e=.r (.bool true)/\Bl w p:=by
 obtain⟨⟨v,B,D,F,qe⟩,b⟩:∃Q,Ts s.data.toList g c h d j=Q:=⟨_,rfl⟩;have hC:=fun p=>Be6 s p hs;have hR:=fun p (hb:Bl w p)=>Bju s g c h d j t A p hs hl (hi.below hb) _ b;have hF:=fun p (Y:(Gq s.data.toList).1=0)=>Bkg s p hs (Og Y);have b3:=fun (f:RFl) (p:TW) (Y:(Gq s.data.toList).1=0)=>Bpr s f g c h d j t A p Y;have b4:(Gq s.data.toList).1=0->∀m∈(Rd.read s.data.toList).1.methods,m.params.length<=1000:=fun Y m hm=>by
  have:=((Ke _ (Og Y)).1.mt m hm).bd.ps;omega
 unfold Ts at b;generalize Gq s.data.toList=C at *;obtain⟨e1,e2,e3⟩:=C;generalize (Rd.read s.data.toList).1.methods=ms at *;generalize (Rd.read s.data.toList).1.classes=cs at *;simp only at hC hR hF b3 b4 b;have HK:=Bc Bka;have HC:=Bc hC;have HR:=Bc hR;have HF:=Bc hF;have a5:=Bc b3;have b5:=Bc b4;have Z:=Bc (fun (_:Unit)=>b);have HI:=Bc hi;have S0:=Bf w (O32 g t c.length A h d j);have d0:Bl w (w.alloc (O32 g t c.length A h d j)):=QN _;clear hC hR hF b3 b4 b hi;go_in;go_wp2_with fail;refine Qm (Ba HK _) ?_;intro w1 b6;have S1:=stay b6 S0;have d1:=QB d0 b6;go_wp2_with fail;refine Qm (Ba HC _) ?_;intro w2 b7;have S2:=stay b7 S1;have b8:=QB d1 b7;obtain⟨c0,c1,c2,c3,c4⟩:=cl5 S2;simp at c0 c1 c2 c3 c4;clear S0 S1 d0 d1 b6 b7 HK HC;go_wp2_with fail;refine(Ba HR _ b8).mono ?_;rintro e w3 ⟨G,I,rfl,b9,a6⟩;have a7:=QB b8 a6;have S3:=Bk (stay a6 S2) (O33 G v.length I B D F);have a8:=a7.alloc a7.size (O33 G v.length I B D F);have b:=Ba Z ();clear HR Z b8 S2 c0 c1 c2 c3 c4;simp only;by_cases O:e1≠0
 ·rw[Sp O]at b;simp only[Rk.mk.injEq]at b;obtain⟨rfl,rfl,rfl,rfl,rfl⟩:=b;have f2:(e1 != 0)=true:=by simpa using O
  clear HF a5 b5 HI S3 b9 a6 a7 O;go_wp2;go_ret;exact⟨rfl,a8⟩
 rw[Pf O]at b;obtain rfl:e1=0:=by simpa using O
 clear O;have d2:=b9.alloc (O33 G v.length I B D F);go_wp2_with fail;refine(Ba HF _ (by trivial)).mono ?_;rintro e w4 ⟨f,x,y,rfl,a0,a3,J,a4⟩;have d3:=a8.trans (a4.mono a8.size);have K:=Bk (stay a4 S3) (O11 f.a1 f.l.length f.c1 f.a2 f.ms.length f.c2);have G4:=Bk (stay a4 (Bf w3 (O33 G v.length I B D F))) (O11 f.a1 f.l.length f.c1 f.a2 f.ms.length f.c2);have F4:=Bf w4 (O11 f.a1 f.l.length f.c1 f.a2 f.ms.length f.c2);have a9:Bl w4 (w4.alloc (O11 f.a1 f.l.length f.c1 f.a2 f.ms.length f.c2)):=QN _;have b0:=QB d3 a9;have d4:=((Jk.of_ints d2).below a4).below a9;have c5:=a0.below a9;have b1:=Bkh f g h d j c t A _ c5 (fun q hq=>Ba b5 (by trivial) _ (by rw[<- J];exact Bwa hq)) hl ((Ba HI).below b0);rw[show (f.ms.map fun q=>q.1.m)=ms from J]at b1;have c6:=Bc (Bxh c5 (Bxh a3 J));simp only[RFl.val]at b1 ⊢;have HB:=Bc b1;have c7:=Bc ((Ba HI).below b0);have Z:=Bc (fun (_:Unit)=>b);have HO:=Bc d4;clear a0 a3 J a4 c5 b1 HF a9 a7 a8 d3 b d4 d2 b9 S3 b5 HI a6;generalize Hi ms g c h d j=se at *;have s0:=(Bb K 0).trans (show _=some (.i g) from rfl);have s1:=(Bb K 1).trans (show _=some (.s t c.length A) from rfl);have s2:=(Bb K 2).trans (show _=some (.i h) from rfl);have s3:=(Bb K 3).trans (show _=some (.i d) from rfl);have s4:=(Bb K 4).trans (show _=some (.i j) from rfl);have f0:=(Bb F4 0).trans (show _=some (.s f.a1 f.l.length f.c1) from rfl);have f1:=(Bb F4 1).trans (show _=some (.s f.a2 f.ms.length f.c2) from rfl);go_wp2_with fail;refine Qm (Ba HB) ?_;intro w5 z;have L:=stay z K;have N:=stay z G4;have F5:=stay z F4;have c8:=QB b0 z;have b:=Ba Z ();clear HB Z s0 s1 s2 s3 s4 f0 f1 K G4 F4 b0;by_cases V:se≠0
 ·rw[Sp V]at b;simp only[Rk.mk.injEq]at b;obtain⟨rfl,rfl,rfl,rfl,rfl⟩:=b;have f3:(se != 0)=true:=by simpa using V
  have g0:=(Bb N 0).trans (show _=some (.s G 0 I) from rfl);have g1:=(Bb N 1).trans (show _=some (.i 0) from rfl);have g2:=(Bb N 2).trans (show _=some (.i 0) from rfl);have g3:=(Bb N 3).trans (show _=some (.i 0) from rfl);clear a5 c6 c7 HO L F5 N z V;go_wp2;go_ret;exact⟨rfl,c8⟩
 rw[Pf V]at b;obtain rfl:se=0:=by simpa using V
 obtain rfl:qe=0:=by have:=congrArg Rk.err b;exact this.symm
 obtain⟨a0,a3,J⟩:=Ba c6;have hP:=Ba a5 f w5 (by trivial) (a0.below z) a3 J ((Ba c7).below z) rfl _ b;simp only[RFl.val]at hP;have HP:=Bc hP;have d5:=Bc ((Ba HO).below z);have s0:=(Bb L 0).trans (show _=some (.i g) from rfl);have s1:=(Bb L 1).trans (show _=some (.s t c.length A) from rfl);have s2:=(Bb L 2).trans (show _=some (.i h) from rfl);have s3:=(Bb L 3).trans (show _=some (.i d) from rfl);have s4:=(Bb L 4).trans (show _=some (.i j) from rfl);have f0:=(Bb F5 0).trans (show _=some (.s f.a1 f.l.length f.c1) from rfl);have f1:=(Bb F5 1).trans (show _=some (.s f.a2 f.ms.length f.c2) from rfl);clear a5 c6 c7 HO a0 a3 J hP b V z;go_wp2_with fail;refine(Ba HP).mono ?_;rintro e w6 ⟨ya,yc,rfl,c9,b2⟩;have d6:=QB c8 b2;have G6:=Bk (stay b2 N) (O33 ya v.length yc B D F);have hn:Bl w6 (w6.alloc (O33 ya v.length yc B D F)):=QN _;have d8:=QB d6 hn;have g0:=(Bb G6 0).trans (show _=some (.s G v.length I) from rfl);have g1:=(Bb G6 1).trans (show _=some (.i B) from rfl);have g2:=(Bb G6 2).trans (show _=some (.i D) from rfl);have g3:=(Bb G6 3).trans (show _=some (.i F) from rfl);have d7:v.length<=9223372036854775807:=by
  rcases c9.2 with ⟨_,e⟩|⟨_,f4,_,e,_,_,e1,e2,_⟩
  ·omega
  unfold maxLen at e2;omega
 have HE:=Bc (Af v B D F G ya I yc _ (((Ba d5).below b2).below hn) ((Jk.of_ints c9).below hn) d7);clear HP d5 s0 s1 s2 s3 s4 f0 f1 L F5 N G6 b2 c8 d6 hn c9 d7;go_wp2_with fail;refine Qb (Ba HE) d8 ?_;intro w7 f5 d9;go_wp2;go_ret;exact⟨Fr,d9⟩
end Go.Proofs.YtpcgnjolfahacaaGreat
