/- the proof's parts -/
import Derived.Test.YtpcgnjolfahacaaGreatPk11
set_option maxRecDepth 100000
set_option maxHeartbeats 40000000
set_option linter.unusedVariables false
set_option linter.unusedSimpArgs false
set_option linter.defProp false
namespace Go.Proofs.YtpcgnjolfahacaaGreat
open Go.RowKit Go.Proofs.Tryz
def Xh(k:Cz)(op:Int)(n:Int)(v:TX)(w:TW)(f:∃a m c,v=.s a m c)(g:op=17\/op=18)(Q:TW->Prop)(hF:Calls prog 203 #[.q k.B 0,.i op,.i n,v] w fun e b=>e=.r (.tuple #[])/\Q b):Calls prog 153 #[.q k.B 0,.i op,.i n,v] w fun e b=>e=.r (.tuple #[])/\Q b:=by
 obtain⟨a,m,c,rfl⟩:=f;have h:=Bc hF;clear hF;rcases g with rfl|rfl
 all_goals
  go_in;go_wp2_with fail;refine Qm (Ba h) ?_;intro l j;go_wp2;go_end0;exact⟨rfl,j⟩
def Br.readd(M:Br):Br:=⟨M.os,M.ts,M.made,M.read+1,M.out,M.steps,M.status,M.value,M.oa,M.oc,M.ta,M.tc,M.xa,M.xc⟩
def Bps{k:Cz}{M:Br}{X:List Rw}{w:TW}(h:Bm k M X w):Bm k M.readd X (w.setCell (.a k.B 10) (.i ((M.read:Int)+1))):=by
 have b:=Own.cell (i:=0) h Ls 10 (.i ((M.read:Int)+1));unfold Bm Br.readd Br.rows Br.cells;simp only[Bvi];exact b
def Bgj(k:Cz)(M:Br)(X:List Rw)(o:Bz)(lv sv:TX)(r:List (Bz×Value×Value))(n:Int)(v:TX)(w:TW)(b:k.Ok)(h:Bm k M X w)(l:M.os=(o,lv,sv)::r)(J:r.length<=1000)(K:o.st.length<=1000)(t:o.m<k.f.ms.length)(A:(o.st.length:Int)<k.f.ms[o.m].1.m.stack)(L:∃a m c,v=.s a m c)(N:M.read<k.ins.length):Calls prog 153 #[.q k.B 0,.i 24,.i n,v] w fun e g=>e=.r (.tuple #[])/\∃j,Bm k (M.readd.put ((⟨o.m,o.p,o.lo,o.st++[(1,k.ins.getD M.read 0)]⟩,lv,j)::r)) X g:=by
 obtain⟨a,m,c,rfl⟩:=L;obtain⟨D,F,G,O,I⟩:=b.ins M.read N;have Z:=(h.low.cell (p:=.a D (F+M.read)) O).trans I;have a0:w.C k.B 10 (.i (M.read:Int)):=h.cell Ls;have c3:w.C k.B 3 (.s (some ⟨D,F,none⟩) k.ins.length k.ic):=by rw[<- G];exact h.cell Ls
 have a1:=h.fz 10;have a2:=b.il;have Q:=Bc (fun (g:TW) (V:Bl w g)=>Ja k M.readd X o lv sv r 1 (k.ins.getD M.read 0) _ b.f (Bps (h.below V)) l t A J K);have hw:IntKind.i64.wrap ((M.read:Int)+1)=(M.read:Int)+1:=Cx _ Ck Ck;have a3:(M.read:Int)<(k.ins.length:Int):=Ck;generalize k.ins.getD M.read 0=z at *;generalize M.read=rd at *;clear h l t A G I;go_in;go_wp2;go_quiet (fail);go_wp2;go_quiet (fail);go_wp2_with fail;refine Qm (Ba Q _ (Dr (Brm _ _))) ?_;rintro w1 ⟨j,Y⟩;go_wp2;go_end0;exact⟨rfl,j,Y⟩
def Bci(k:Cz)(M:Br)(X:List Rw)(o:Bz)(lv sv:TX)(r:List (Bz×Value×Value))(n:Int)(v:TX)(w:TW)(z:k.Ok)(h:Bm k M X w)(j:M.os=(o,lv,sv)::r)(A:r.length<=1000)(D:o.st.length<=1000)(l:o.m<k.f.ms.length)(t:(o.st.length:Int)<k.f.ms[o.m].1.m.stack)(F:∃a m c,v=.s a m c)(K:k.ins.length<=M.read):Calls prog 153 #[.q k.B 0,.i 24,.i n,v] w fun e b=>e=.r (.tuple #[])/\∃g,Bm k (M.put ((⟨o.m,o.p,o.lo,o.st++[(1,0)]⟩,lv,g)::r)) X b:=by
 obtain⟨a,m,c,rfl⟩:=F;have L:w.C k.B 10 (.i (M.read:Int)):=h.cell Ls;have N:w.C k.B 3 (.s k.ia k.ins.length k.ic):=h.cell Ls;have G:=Bc (fun (b:TW) (I:Bl w b)=>Ja k M X o lv sv r 1 0 b z.f (h.below I) j l t A D);have O:¬(M.read:Int)<(k.ins.length:Int):=Ck;generalize M.read=Q at *;clear h j l t;go_in;go_wp2;go_quiet (fail);go_wp2_with fail;refine Qm (Ba G _ (Dr (Brm _ _))) ?_;rintro V ⟨g,J⟩;go_wp2;go_end0;exact⟨rfl,g,J⟩
def Tryz.infoInt2:(prog.info? 3).map (fun i=>(i.zero,i.size,i.bytes))=some (some (.i 0),1,8):=Lt
def Br.outed(M:Br)(z:Int)(xa:TA)(xc:Nat):Br:=⟨M.os,M.ts,M.made,M.read,M.out++[z],M.steps,M.status,M.value,M.oa,M.oc,M.ta,M.tc,xa,xc⟩
def Bpt{k:Cz}{M:Br}{X:List Rw}{w w9:TW}{z:Int}{xa:TA}{xc:Nat}(h:Bm k M X w)(c:w9.ownsRow k.w0.heap.size 3 1 (.s xa (M.out.length+1) xc) (M.out.length+1) (M.out.map (Value.int .i64)++[.i z])) (e:w.grownBy w9 (Value.slice M.xa M.out.length M.xc).ownBlock)(f:(Value.slice xa (M.out.length+1) xc).ownBlock=(Value.slice M.xa M.out.length M.xc).ownBlock\/(Value.slice xa (M.out.length+1) xc).ownBlock=some w.heap.size):w9.C k.B 11 (.s M.xa M.out.length M.xc)/\w9.frozen? (.a k.B 11)=false/\Bm k (M.outed z xa xc) X (w9.setCell (.a k.B 11) (.s xa (M.out.length+1) xc)):=by
 obtain⟨m,p,q,t,g,v,A,D,F,G,I,J,K,L⟩:=M;simp only at c e f ⊢;have b:=Own.app (i:=3) h Ls c e f;have l:=Own.cell (i:=0) b Ls 11 (.s xa (g.length+1) xc);refine⟨Own.see (i:=0) (j:=11) b Ls Ls,Own.free (i:=0) b Ls 11,?_⟩;unfold Bm Br.outed Br.rows Br.cells;simp only[Ws,Br7,Bs2,Brz,Bse,Bsw,Buu];exact l
def Ben(k:Cz)(M:Br)(X:List Rw)(n:Int)(a:TP)(f:TA)(vc:Nat)(w:TW)(h:Bm k M (Da (.s f a.length vc) a::X) w)(v:0<a.length)(a0:M.out.length<=100000):Calls prog 153 #[.q k.B 0,.i 25,.i n,.s f a.length vc] w fun e j=>e=.r (.tuple #[])/\∃xa xc,Bm k (M.outed (Ce a).2 xa xc) (Da (.s f a.length vc) a::X) j:=by
 obtain⟨A,D,F,G,I⟩:=Bsa Tryz.infoInt2;obtain⟨g,rfl,J,-,l⟩:=vxg h v;have p:(a.getD 0 (0,0)).2=(Ce a).2:=rfl;rw[p]at l;simp only[Bsm,Brz]at l;have K:w.C k.B 11 (.s M.xa M.out.length M.xc):=h.cell Ls;have N:=h.ltB;have a1:=h.low.size;have O:=h.xrow;generalize (Ce a).2=z at *;have Q:=Bc (fun (j w9:TW) xa xc (V:Bl w j) Y Z b=>Bpt (z:=z) (w9:=w9) (xa:=xa) (xc:=xc) (h.below V) Y Z b);have a2:=fun y=>(Bsu w y ⟨k.B,11,none⟩ N).trans K;have ag:=fun y=>(Bsu w y ⟨g,1,none⟩ J).trans l;clear h p;generalize hL:M.out.length=L at *;go_in
 go_upto_region 22 with fail
 go_region_law
  ((refine Bak Ls _ _ _ Ls k.w0.heap.size 3 A _ 1 8 Bta D F G I rfl Ck _ _ _ Ls ((O.alloc _).drew) ⟨w.heap.size,0,none⟩ 1 1 [.i z] Ls Ls (Dh w _ _ _ rfl) (by simp[Value.oneCell']) Pf Ck Fr ?_;intro v' w9 m t b;obtain⟨a3,a4,rfl⟩:=Bh m;have c:=Ba Q _ _ _ _ ((QN _).drew) m t b;have e1:=c.1;have e2:=c.2.1;have HA:=Bc c.2.2;clear c t m b))
 all_goals
  go_wp2;go_end0;exact⟨rfl,_,_,Ba HA⟩
def Cm {α β:Type}(R:α->β->Prop):List α->List β->Prop
 | [],[]=>True
 | a::l,b::r=>R a b/\Cm R l r
 | _,_=>False
def Cm.nil{α β:Type}{R:α->β->Prop}:Cm R [] []:=trivial
def Cm.cons{α β:Type}{R:α->β->Prop}{a:α}{b:β}{l:List α}{r:List β}(h:R a b)(k:Cm R l r):Cm R (a::l) (b::r):=⟨h,k⟩
def Cm.el{α β:Type}{R:α->β->Prop}{P:(l:List α)->(r:List β)->Cm R l r->Prop}(nil:P [] [] .nil)(cons:∀{a:α}{b:β}{l:List α}{r:List β} (h:R a b) (k:Cm R l r),P l r k->P (a::l) (b::r) (.cons h k)):∀{l:List α}{r:List β} (h:Cm R l r),P l r h
 | [],[],_=>nil
 | [],_::_,h=>False.elim h
 | _::_,[],h=>False.elim h
 | _::_,_::_,h=>cons h.1 h.2 (Cm.el nil cons h.2)
section
variable {α β:Type}{R S:α→β→Prop}
def Cm.len{l:List α}{r:List β}(h:Cm R l r):l.length=r.length:=by induction h using Cm.el with
 | nil=>rfl
 | cons _ _ ih=>simp[ih]
def Cm.mono{l:List α}{r:List β}(h:Cm R l r)(k:∀a∈l,∀b∈r,R a b->S a b):Cm S l r:=by induction h using Cm.el with
 | nil=>exact .nil
 | cons x _ ih=>exact .cons (k _ Hd _ Hd x) (ih (fun a c b e=>k a (by simp[c]) b (by simp[e])))
def Cm.app{l b:List α}{r c:List β}(h:Cm R l r)(k:Cm R b c):Cm R (l++b) (r++c):=by induction h using Cm.el with
 | nil=>exact k
 | cons x _ ih=>exact .cons x ih
def Cm.split{l:List α}:∀{r c:List β},Cm R l (r++c)->∃a b,l=a++b/\Cm R a r/\Cm R b c:=by
 induction l with
 | nil=>intro r c h;cases r with
  | nil=>exact⟨[],[],rfl,.nil,h⟩
  | cons _ _=>cases h using Cm.el
 | cons x l ih=>intro r c h;cases r with
  | nil=>exact⟨[],x::l,rfl,.nil,h⟩
  | cons y r =>
   cases h using Cm.el with
   | cons h1 h2 =>
    obtain⟨a,b,rfl,e,f⟩:=ih h2;exact⟨x::a,b,rfl,.cons h1 e,f⟩
def Cm.get{l:List α}{r:List β}(h:Cm R l r)(i:Nat)(b:i<l.length)(u:α)(v:β):R (l.getD i u) (r.getD i v):=by
 induction h using Cm.el generalizing i with
 | nil=>simp at b
 | cons x _ ih=>cases i with
  | zero=>exact x
  | succ j=>simpa using ih j (by simpa using b)
def Cm.set{l:List α}{r:List β}(h:Cm R l r)(i:Nat){u:α}{v:β}(b:R u v):Cm R (l.set i u) (r.set i v):=by
 induction h using Cm.el generalizing i with
 | nil=>exact .nil
 | cons x hr ih=>cases i with
  | zero=>exact .cons b hr
  | succ j=>exact .cons x (ih j)
def Cm.map{Z:Type}{f:β->Z}{Q:α->Z->Prop}{l:List α}{r:List β}(h:Cm R l r)(k:∀a∈l,∀b∈r,R a b->Q a (f b)):Cm Q l (r.map f):=by
 induction h using Cm.el with
 | nil=>exact .nil
 | cons x _ ih=>exact .cons (k _ Hd _ Hd x) (ih (fun a c b e=>k a (by simp[c]) b (by simp[e])))
end
def Hz.mono{n b:Nat}(h:n<=b){C:Int×Int}(k:Hz n C):Hz b C:=by
 rcases k with k|k | k
 ·exact .inl k
 ·exact .inr (.inl k)
 exact .inr (.inr ⟨k.1,k.2.1,Ck⟩)
structure Ej(T:List Int)(ts:List Dj)(ω:Int->Nat × Int)(i:Nat)(ρ ar:Int->Int)(v t:Int × Int):Prop where
 int:t.1=1->v.1=1
 null:t.1=2->v=(2,0)
 ref:t.1=3->v.1=2/\(v.2=0\/(Cc ts v.2).set=true/\Tr.fitsB T 3 (Cc ts v.2).cl 3 t.2=true)
 raw:t.1=4->v=(2,ρ t.2)/\0<ρ t.2/\ρ t.2<(ts.length:Int)/\(Cc ts (ρ t.2)).set=false/\(Cc ts (ρ t.2)).cl=ar t.2/\ω (ρ t.2)=(i,t.2)
def Sk (T:TI)(ts:List Dj):Prop:=∀k,(Cc ts k).set=true->0<=(Cc ts k).cl/\(Cc ts k).cl<(T.length:Int)
def Ej.top{z:TI}{I:List Dj}{ω:Int->Nat×Int}{u:Nat}{ρ b:Int->Int}{C t:Int×Int}(h:t.1=0):Ej z I ω u ρ b C t:=by constructor<;>intro c<;>omega
def Ej.le{z:TI}(q:Tr.Ok z){I:List Dj}{ω:Int->Nat×Int}{u:Nat}{ρ f:Int->Int}{C s t:Int×Int}(h:Ej z I ω u ρ f C s)(c:V8 z s t)(g:Tr.Arg z s.1 s.2)(j:Tr.Arg z t.1 t.2)(A:Sk z I):Ej z I ω u ρ f C t:=by
 rcases(Tr.fits_iff z s.1 s.2 t.1 t.2).1 c with ⟨h1,h2⟩|h1|⟨h1,h2⟩|⟨h1,h2,h3⟩
 ·have:s=t:=Btq h1 h2;rw[<- this];exact h
 ·exact .top h1
 ·have:=h.null h2;exact⟨fun e=>Ck,fun e=>Ck,fun _=>by rw[this];exact⟨rfl,.inl rfl⟩,fun e=>Ck⟩
 obtain⟨a,b⟩:=h.ref h2;refine⟨fun e=>Ck,fun e=>Ck,fun _=>⟨a,?_⟩,fun e=>Ck⟩;rcases b with b|⟨l,B⟩
 ·exact .inl b
 obtain⟨D,F⟩:=A _ l;have m:s=(3,s.2):=Btq h2 rfl;have p:t=(3,t.2):=Btq h1 rfl;refine .inr ⟨l,Tr.fits_trans q (.inr (.inr (.inr (.inl ⟨rfl,D,F⟩)))) ?_ ?_ B ?_⟩
 ·rw[m]at g;exact g
 ·rw[p]at j;exact j
 rw[m,p]at c;exact c
def Cm.le{z:TI}(j:Tr.Ok z){I:List Dj}{ω:Int->Nat×Int}{u:Nat}{ρ c:Int->Int}(m:Sk z I){q p:TP}(s:Do z q p):∀{a:TP},(∀t∈q,Tr.Arg z t.1 t.2)->(∀t∈p,Tr.Arg z t.1 t.2)->Cm (Ej z I ω u ρ c) a q->Cm (Ej z I ω u ρ c) a p:=by
 induction s using Do.el with
 | nil=>intro a _ _ h;exact h
 | cons f _ ih =>
  intro a e g h;cases h using Cm.el with
  | cons x y=>exact .cons (x.le j f (e _ Hd) (g _ Hd) m) (ih (fun t b=>e t (by simp[b])) (fun t b=>g t (by simp[b])) y)
structure Kl(ts ts':List Dj)(ω ω':Int->Nat × Int)(P:Nat × Int->Prop):Prop where
 len:ts.length<=ts'.length
 set:∀k:Int,0<=k->k<(ts.length:Int)->(Cc ts k).set=true->(Cc ts' k).set=true/\(Cc ts' k).cl=(Cc ts k).cl
 raw:∀k:Int,0<=k->k<(ts.length:Int)->(Cc ts k).set=false->¬P (ω k)->(Cc ts' k).set=false/\(Cc ts' k).cl=(Cc ts k).cl/\ω' k=ω k
def Ej.ext{z:TI}{I j:List Dj}{ω l:Int->Nat×Int}{P:Nat×Int->Prop}(e:Kl I j ω l P){u:Nat}{ρ m:Int->Int}{C t:Int×Int}(h:Ej z I ω u ρ m C t)(s:Hz I.length C)(A:t.1=4->¬P (u,t.2)):Ej z j l u ρ m C t:=by
 refine⟨h.int,h.null,fun c=>?_,fun c=>?_⟩
 ·obtain⟨a,b⟩:=h.ref c;refine⟨a,?_⟩;rcases b with b|⟨B,D⟩
  ·exact .inl b
  have p:0<=C.2/\C.2<(I.length:Int):=by
   rcases s with w|w | w
   ·rw[w]at a;simp at a
   ·omega
   exact w.2
  obtain⟨f,g⟩:=e.set C.2 p.1 p.2 B;exact .inr ⟨f,by rw[g];exact D⟩
 obtain⟨F,G,J,K,L,q⟩:=h.raw c;obtain⟨f,g,N⟩:=e.raw (ρ t.2) Ck J K (by rw[q];exact A c);have:=e.len;exact⟨F,G,Ck,f,by rw[g];exact L,by rw[N];exact q⟩
def Cm.ext{z:TI}{I b:List Dj}{ω c:Int->Nat×Int}{P:Nat×Int->Prop}(e:Kl I b ω c P){u:Nat}{ρ f:Int->Int}{a p:TP}(h:Cm (Ej z I ω u ρ f) a p)(g:∀v∈a,Hz I.length v)(j:∀q,¬P (u,q)):Cm (Ej z b c u ρ f) a p :=
 h.mono (fun v m t _ k=>k.ext e (g v m) (fun _=>j t.2))
def Brb{z:TI}(f:Tr.Ok z){I:List Dj}{ω:Int->Nat×Int}{u:Nat}{ρ g:Int->Int}{C t:Int×Int}(j:Sk z I)(h:Ej z I ω u ρ g C t)(c:t.1=1\/t.1=3/\0<=t.2):Jf z I C t=true:=by
 unfold Jf;rcases c with c|⟨c,l⟩
 ·rw[Th c];simp[h.int c]
 rw[Pk Ck];obtain⟨a,b⟩:=h.ref c;rw[Th a];rcases b with b|⟨e,m⟩
 ·rw[Th b]
 obtain⟨p,q⟩:=j _ e
 split
 ·rfl
 rw[e,(Tr.rbel_iff f p q l).2 (Tr.fits_ref.1 m)];rfl
def Bq7{z:TI}(f:Tr.Ok z){I:List Dj}{ω:Int->Nat×Int}{u:Nat}{ρ g:Int->Int}{C:Int×Int}{n:Int}(j:Sk z I)(l:0<=n)(h:Jf z I C (3,n)=true):Ej z I ω u ρ g C (3,n):=by
 unfold Jf at h;rw[Pk Hd]at h;refine⟨fun e=>absurd e Hd,fun e=>absurd e Hd,fun _=>?_,fun e=>absurd e Hd⟩
 split at h
 ·next a =>
  refine⟨a,?_⟩
  split at h
  ·next b=>exact .inl b
  obtain⟨c,m⟩:=Bool.and_eq_true_iff.1 h;obtain⟨p,q⟩:=j _ c;exact .inr ⟨c,Tr.fits_ref.2 ((Tr.rbel_iff f p q l).1 m)⟩
 cases h
def Blb{z:TI}(c:Tr.Ok z){I:List Dj}{ω:Int->Nat×Int}{u:Nat}{ρ e:Int->Int}(f:Sk z I){a p:TP}(h:Cm (Ej z I ω u ρ e) a p)(b:∀t∈p,t.1=1\/t.1=3/\0<=t.2):Hh z I a p=true:=by
 induction h using Cm.el with
 | nil=>rfl
 | cons x _ ih =>
  unfold Hh;rw[Brb c f x (b _ Hd),ih (fun t g=>b t (by simp[g]))];rfl
def Ej.plain{z:TI}{I:List Dj}{ω c:Int->Nat×Int}{u b:Nat}{ρ f g j:Int->Int}{C t:Int×Int}(h:Ej z I ω u ρ f C t)(l:t.1≠4):Ej z I c b g j C t :=
 ⟨h.int,h.null,h.ref,fun e=>absurd e l⟩
def Cm.plain{z:TI}{I:List Dj}{ω c:Int->Nat×Int}{u b:Nat}{ρ e f g:Int->Int}{a p:TP}(h:Cm (Ej z I ω u ρ e) a p)(j:∀t∈p,t.1≠4):Cm (Ej z I c b f g) a p :=
 h.mono (fun _ _ t m k=>k.plain (j t m))
def Gz (m:Rd.Mth)(q:Int):Int:=Cd.atI m.code (q+1)
structure Cs.Ok(E:Cs):Prop where
 k:Kn E.cs E.ms
 cd:∀m∈E.ms,0<m.code.length
 ck:∀m∈E.ms,(Hk E.cs E.ms m).1=0
 hd:∀j,j<E.ms.length->Hv E.T E.ms j (E.meth j)=true
 ins:∀v∈E.ins,-2147483648<=v/\v<=2147483647
abbrev Cs.F(E:Cs)(m:Nat)(p:Nat):Option Bf:=Tu E.cs E.ms (E.meth m) p
def Cs.mem{E:Cs}{n:Nat}(h:n<E.ms.length):E.meth n∈E.ms:=by
 unfold Cs.meth;rw[Vm,Brl h];exact Brn h
structure Me(E:Cs)(ts:List Dj)(ω:Int->Nat × Int)(i:Nat)(ρ:Int->Int)(o:Bz)(x:Bf):Prop where
 lo:Cm (Ej E.T ts ω i ρ (Gz (E.meth o.m))) o.lo x.locals
 st:Cm (Ej E.T ts ω i ρ (Gz (E.meth o.m))) o.st x.stack
def Eo (E:Cs)(ts:List Dj)(ω:Int->Nat × Int)(i0:Int × Int)(i1:List Bz):Prop:=∀(P:Int × Int->List Bz->Prop),(∀(res:Int × Int),P res [])->(∀{res:Int × Int}{q:Bz}{r:List Bz} (ρ:Int->Int) (x:Bf) (s:TP),q.m<E.ms.length->q.p∈Cd.places (E.meth q.m).code->E.F q.m q.p=some x->Dl ((E.meth q.m).code.getD q.p 0)=true->Ec E.cs E.ms (E.meth q.m) q.p x=some ⟨x.locals,s++Ds res⟩->Me E ts ω r.length ρ q ⟨x.locals,s⟩->P (E.meth q.m).result r->P res (q::r))->P i0 i1
def Eo.nil{E:Cs}{I:List Dj}{ω:Int->Nat×Int}(b:Int×Int):Eo E I ω b []:=fun P c e=>c b
def Eo.cons{E:Cs}{I:List Dj}{ω:Int->Nat×Int}{C:Int×Int}{q:Bz}{r:List Bz}(ρ:Int->Int)(x:Bf)(s:TP)(c:q.m<E.ms.length)(e:q.p∈Cd.places (E.meth q.m).code)(f:E.F q.m q.p=some x)(g:Dl ((E.meth q.m).code.getD q.p 0)=true)(h:Ec E.cs E.ms (E.meth q.m) q.p x=some ⟨x.locals,s++Ds C⟩)(i:Me E I ω r.length ρ q ⟨x.locals,s⟩)(j:Eo E I ω (E.meth q.m).result r):Eo E I ω C (q::r):=fun P l b=>b ρ x s c e f g h i (j P l b)
def Eo.el{E:Cs}{ts:List Dj}{ω:Int->Nat×Int}{M:(i0:Int×Int)->(i1:List Bz)->Eo E ts ω i0 i1->Prop}(nil:∀(res:Int×Int),M res [] (Eo.nil res))(cons:∀{res:Int×Int}{q:Bz}{r:List Bz} (ρ:Int->Int) (x:Bf) (s:TP) (q0:q.m<E.ms.length) (q1:q.p∈Cd.places (E.meth q.m).code) (q2:E.F q.m q.p=some x) (q3:Dl ((E.meth q.m).code.getD q.p 0)=true) (q4:Ec E.cs E.ms (E.meth q.m) q.p x=some ⟨x.locals,s++Ds res⟩) (q5:Me E ts ω r.length ρ q ⟨x.locals,s⟩) (q6:Eo E ts ω (E.meth q.m).result r),M (E.meth q.m).result r q6->M res (q::r) (Eo.cons ρ x s q0 q1 q2 q3 q4 q5 q6)){i0:Int×Int}{i1:List Bz}(h:Eo E ts ω i0 i1):M i0 i1 h :=
 (h (fun i0 i1=>∃k:Eo E ts ω i0 i1,M i0 i1 k) (fun res=>⟨Eo.nil res,nil res⟩) (fun ρ x s q0 q1 q2 q3 q4 q5 ⟨q6,mq6⟩=>⟨Eo.cons ρ x s q0 q1 q2 q3 q4 q5 q6,cons ρ x s q0 q1 q2 q3 q4 q5 q6 mq6⟩)).elim fun _ m=>m
structure Bqy(E:Cs)(ts:List Dj)(ω:Int->Nat × Int)(o:Bz)(r:List Bz):Prop where
 m:o.m<E.ms.length
 p:o.p∈Cd.places (E.meth o.m).code
 ty:∃ρ x,E.F o.m o.p=some x/\Me E ts ω r.length ρ o x
 w:Eo E ts ω (E.meth o.m).result r
structure Jx(E:Cs)(ts:List Dj)(ω:Int->Nat × Int):Prop where
 six:6<=ts.length
 gv:∀k:Nat,1<=k->k<=5->ts[k]?=some ⟨(k:Int)+1,true,[]⟩
 z:ts[0]?=some Xg
 cl:∀k:Nat,0<k->k<ts.length->0<=(Cc ts k).cl/\(Cc ts k).cl<(E.T.length:Int)
 vs:∀k:Nat,k<ts.length->(Cc ts k).set=true->Cm (Ej E.T ts ω 0 id id) (Cc ts k).vals (E.all (Cc ts k).cl)
 un:∀k:Nat,k<ts.length->(Cc ts k).set=false->(Cc ts k).vals=[]
 wv:∀k:Nat,k<ts.length->∀v∈(Cc ts k).vals,Hz ts.length v
def Aq (n:Nat)(o:Bz):Prop:=(∀v∈o.lo,Hz n v)/\∀v∈o.st,Hz n v
structure Sr(E:Cs)(d:Cv)(ω:Int->Nat × Int)(o:Bz)(r:List Bz):Prop where
 os:d.os=o::r
 st:d.status = -1/\d.value=0
 hp:Jx E d.ts ω
 md:d.made+6=d.ts.length
 ws:∀q∈o::r,Aq d.ts.length q
 top:Bqy E d.ts ω o r
def Jx.Cl{E:Cs}{I:List Dj}{ω:Int->Nat×Int}(h:Jx E I ω):Sk E.T I:=fun k b=>by
 have c:k.toNat<I.length:=by
  by_cases g:k.toNat<I.length;·exact g
  unfold Cc at b;rw[Vm,Bs3 Ck]at b;cases b
 by_cases g:0<k.toNat;·have:=h.cl k.toNat g c;unfold Cc at this ⊢;rw[Brx]at this;exact this
 have e:k.toNat=0:=Ck;unfold Cc at b;rw[e,Vm,h.z]at b;cases b
def Cs.Ok.sol{E:Cs}(b:E.Ok){K:Rd.Mth}(c:K∈E.ms):Blh (Ji E.cs E.ms K) (Tu E.cs E.ms K):=(Bfh b.k c (b.cd K c) (b.ck K c)).1
def Cs.Ok.P{E:Cs}(b:E.Ok){K:Rd.Mth}(c:K∈E.ms){u:Nat}{x:Bf}(h:Tu E.cs E.ms K u=some x):Io E.T K x:=(b.sol c).inv u x h
def Bm4{E:Cs}(h:E.Ok){I:List Dj}{ω:Int->Nat×Int}(j:Sk E.T I){u:Nat}(D:u<E.ms.length){b:Nat}(G:b∈Cd.places (E.meth u).code){x:Bf}(J:E.F u b=some x){c:Int}{y:Bf}{e:Bool}(K:I8 (Ji E.cs E.ms (E.meth u)) b x c y e)(l:Hy E.T y) {t:Nat}{ρ:Int->Int}{o:Bz}(Q:o.m=u)(s:o.p=c.toNat)(v:Me E I ω t ρ o y):0<=c/\(y.stack.length:Int)<=(E.meth u).stack/\o.p∈Cd.places (E.meth u).code/\∃z,E.F u o.p=some z/\Me E I ω t ρ o z:=by
 have A:=Cs.mem D;have S:=h.sol A;obtain⟨L,V,N,⟨z,f,B⟩,_⟩:=(S.sat b G x J).go c y e K;have C:=Lh (h.P A f);have O:c.toNat∈Cd.places (E.meth u).code:=by
  by_cases g:c.toNat∈Cd.places (E.meth u).code;·exact g
  unfold Tu at f;rw[Pk g]at f;cases f
 refine⟨L,N,by rw[s];exact O,z,by rw[s];exact f,?_⟩;exact⟨Cm.le h.k.ok j B.lo l.1 C.1 v.lo,Cm.le h.k.ok j B.st l.2 C.2 v.st⟩
def Bpy{E:Cs}(A:E.Ok){I:List Dj}{ω:Int->Nat×Int}{u:Nat}{ρ f:Int->Int}(C:Sk E.T I){q:TP}{p b:TP}(h:Cm (Ej E.T I ω u ρ f) q p)(D:∀t∈p,Tr.Arg E.T t.1 t.2)(j:∀t∈b,Tr.Arg E.T t.1 t.2)(c:Ey E.T p b=true):∃s a,q=s++a/\Cm (Ej E.T I ω u ρ f) s (p.take (p.length-b.length))/\Cm (Ej E.T I ω u ρ f) a b:=by
 unfold Ey at c;by_cases g:p.length<b.length;·rw[Th g]at c;cases c
 rw[Pk g]at c;have e:=Bua (p.length-b.length) p;rw[<- e]at h;obtain⟨s,a,rfl,B,F⟩:=h.split;refine⟨s,a,rfl,B,?_⟩;have m:∀t∈p.drop (p.length-b.length),Tr.Arg E.T t.1 t.2:=fun t h=>D t (Btk h);have z:(p.drop (p.length-b.length)).length=b.length:=by rw[Bv9];omega
 generalize p.drop (p.length-b.length)=l at *;clear e B g h
 induction F using Cm.el generalizing b with
 | nil=>cases b with
  | nil=>exact .nil
  | cons _ _=>simp at z
 | cons v _ ih=>cases b with
  | nil=>simp at z
  | cons t b =>
   simp only[Hw,Bsq]at c;rw[Tr.rfits_eq A.k.ok (m _ Hd) (j _ Hd)]at c;exact .cons (v.le A.k.ok c.1 (m _ Hd) (j _ Hd) C) (ih (fun t h=>j t (by simp[h])) c.2 (fun t h=>m t (by simp[h])) (by simpa using z))
structure Fk(o:Bz)(c:Bi):Prop where
 m:c.meth=(o.m:Int)
 wf:Dz c
 l8:o.lo.length<=8
 lo:∀j,j<o.lo.length->c.lo.getD j 0=(o.lo.getD j (0,0)).2
 h:c.h=o.st.length
 st:c.st.take c.h=o.st.map Prod.snd
def Fk.at{o:Bz}{c:Bi}(h:Fk o c)(p:Nat):Fk ⟨o.m,p,o.lo,o.st⟩ c:=⟨h.m,h.wf,h.l8,h.lo,h.h,h.st⟩
def Fk.moved{o:Bz}{c:Bi}(h:Fk o c)(a b:Nat):Fk o ⟨c.meth,a,b,c.lo,c.st,c.h⟩:=⟨h.m,⟨h.wf.lo,h.wf.st,h.wf.h⟩,h.l8,h.lo,h.h,h.st⟩
def Mw{o:Bz}{c:Bi}(h:Fk o c)(v:Int×Int)(i:o.st.length<8):Fk ⟨o.m,o.p,o.lo,o.st++[v]⟩ (D8 v.2 c):=by
 have b:¬8<=c.h:=by rw[h.h];omega
 have e:D8 v.2 c=⟨c.meth,c.pos,c.next,c.lo,c.st.set c.h v.2,c.h+1⟩:=by unfold D8;rw[Pk b]
 refine⟨by rw[e];exact h.m,Ko h.wf _,h.l8,fun j f=>by rw[e];exact h.lo j f,by rw[e];simp[h.h],?_⟩;rw[e];have:=h.wf.st;rw[Bse,<- h.st];apply Bv1;intro j;simp only[Bs0,Bup,List.getElem?_append,Btr,Bsw,Buu];by_cases g:j<c.h;·rw[Th Ck,Pk Ck,Th Ck,Th g]
 by_cases g2:j=c.h;·subst g2;rw[Th Ck,Th rfl,Th Ck,Pk Ck];simp[Bum (show c.h<=c.st.length by omega)]
 rw[Pk Ck,Pk Ck];rw[Bs3];simp;omega
def Ny{o:Bz}{c:Bi}(h:Fk o c){s:TP}{v:Int×Int}(e:o.st=s++[v]):(Bv c).1=v.2/\Fk ⟨o.m,o.p,o.lo,s⟩ (Bv c).2/\(Bv c).2.pos=c.pos/\(Bv c).2.next=c.next:=by
 have b:c.h=s.length+1:=by rw[h.h,e];simp
 have g:Bv c=(c.st.getD (c.h-1) 0,⟨c.meth,c.pos,c.next,c.lo,c.st,c.h-1⟩):=by unfold Bv;rw[Pk Ck]
 have f:=h.st;rw[e,Bse,b]at f;have j:=h.wf.st;have q:=h.wf.h;rw[g];refine⟨?_,⟨h.m,⟨h.wf.lo,h.wf.st,by show c.h-1<=8;omega⟩,h.l8,h.lo,by show c.h-1=s.length;omega,?_⟩,rfl,rfl⟩
 ·show c.st.getD (c.h-1) 0=v.2;have:=congrArg (fun l=>l[s.length]?) f;simp only[Bs0]at this;rw[Th Ck,Br0 Hd]at this;simp only[Br1,Bus,Bsw,Btt]at this;rw[b,Bvu,Vm,this];rfl
 show c.st.take (c.h-1)=s.map Prod.snd;have i:(s.map Prod.snd++[v].map Prod.snd).take s.length=s.map Prod.snd:=by
  rw[Buo Hd];exact Bs7 Hd
 have:=congrArg (List.take s.length) f;rw[i,Btw,Bum Ck]at this;rw[b,Bvu,this]
def Vk:∀(n:Nat) {o:Bz}{c:Bi} (_:Fk o c) {s a:TP} (_:o.st=s++a) (_:a.length=n),(Dt n c).1=a.map Prod.snd/\Fk ⟨o.m,o.p,o.lo,s⟩ (Dt n c).2/\(Dt n c).2.pos=c.pos/\(Dt n c).2.next=c.next
 | 0,o,c,h,s,a,e,hn=>by
  obtain rfl:=Bso hn;rw[Btg]at e;refine⟨rfl,?_,rfl,rfl⟩;rw[<- e];exact h
 | n+1,o,c,h,s,a,e,hn=>by
  obtain⟨b,v,rfl⟩:∃b v,a=b++[v]:=by
   rcases List.eq_nil_or_concat a with rfl|⟨b,v,rfl⟩
   ·simp at hn
   exact⟨b,v,Hd⟩
  have f:b.length=n:=by simpa using hn
  obtain⟨g,i,j,l⟩:=Ny h (s:=s++b) (v:=v) (by rw[e];simp);obtain⟨q,t,z,A⟩:=Vk n i (s:=s) (a:=b) rfl f;unfold Dt;refine⟨by simp only;rw[q,g];simp,t,z.trans j,A.trans l⟩
def Boi{o:Bz}{c:Bi}(h:Fk o c){n:Int}(b:0<=n)(e:n<(o.lo.length:Int)):Tt n c=(o.lo.getD n.toNat (0,0)).2:=by
 have:=h.l8;unfold Tt;rw[Pk Ck,Pk Ck];exact h.lo _ Ck
def Bgs{o:Bz}{c:Bi}(h:Fk o c){n:Int}(i:0<=n)(l:n<(o.lo.length:Int))(v:Int×Int):Fk ⟨o.m,o.p,o.lo.set n.toNat v,o.st⟩ (Ep n v.2 c)/\(Ep n v.2 c).pos=c.pos/\(Ep n v.2 c).next=c.next:=by
 have:=h.l8;have q:=h.wf.lo;have e:Ep n v.2 c=⟨c.meth,c.pos,c.next,c.lo.set n.toNat v.2,c.st,c.h⟩:=by unfold Ep;rw[Pk Ck,Pk Ck]
 refine⟨⟨by rw[e];exact h.m,Tz h.wf _ _,by simpa using h.l8,fun j b=>?_,by rw[e];exact h.h,by rw[e];exact h.st⟩,by rw[e],by rw[e]⟩;rw[Bsl]at b;rw[e];have f:=h.lo j b;rw[Vm,Vm]at f ⊢;show ((c.lo.set n.toNat v.2)[j]?).getD 0=_;rw[Bup,Bup];by_cases g:n.toNat=j;·rw[Th g,Th g,Th Ck,Th Ck];rfl
 rw[Pk g,Pk g];exact f
def Bf9:∀(b:TI) (i:Nat) (c:Bi),c.lo.length=8->i+b.length<=8->∀j,(Jy i b c).lo.getD j 0=if i<=j/\j<i+b.length then b.getD (j-i) 0 else c.lo.getD j 0
 | [],i,c,_,_,j=>by rw[Pk (fun h=>by simp only[Bs2]at h;omega)];rfl
 | v::r,i,c,hc,hi,j=>by
  have e:Ep (i:Int) v c=⟨c.meth,c.pos,c.next,c.lo.set i v,c.st,c.h⟩:=by
   unfold Ep;simp only[Br7]at hi;rw[Pk Ck,Pk Ck,Brx]
  simp only[Br7]at hi;unfold Jy;rw[Bf9 r (i+1) _ (by rw[e];simpa using hc) Ck j,e];simp only[Br7];by_cases g:i<=j/\j<i+(r.length+1)
  ·rw[Th g];by_cases g2:j=i;·subst g2;rw[Pk Ck,Bus,Vm,Bt8 Ck];rfl
   rw[Th Ck,show j-i=(j-(i+1))+1 by omega];rfl
  rw[Pk g,Pk Ck,Vm,Bt2 Ck,<- Vm]
def Ua:∀(f:TI) (i:Nat) (c:Bi),(Jy i f c).meth=c.meth/\(Jy i f c).st=c.st/\(Jy i f c).h=c.h
 | [],_,_=>⟨rfl,rfl,rfl⟩
 | v::r,i,c=>by
  obtain⟨a,b,d⟩:=Ua r (i+1) (Ep (i:Int) v c);have e:(Ep (i:Int) v c).meth=c.meth/\(Ep (i:Int) v c).st=c.st/\(Ep (i:Int) v c).h=c.h:=by
   unfold Ep
   split<;>first|exact⟨rfl,rfl,rfl⟩|(split<;>exact⟨rfl,rfl,rfl⟩)
  unfold Jy;exact⟨a.trans e.1,b.trans e.2.1,d.trans e.2.2⟩
def Bfu(E:Cs)(n:Nat)(a:TP)(c:(a.length:Int)<=(E.meth n).locals)(e:(E.meth n).locals<=8):Fk (Hg E n a) (Cn (n:Int) (a.map Prod.snd))/\(Cn (n:Int) (a.map Prod.snd)).next=0:=by
 refine⟨⟨?_,Ph _ _,?_,fun j b=>?_,?_,?_⟩,Ta _ _⟩
 ·exact(Ua _ 0 _).1
 ·unfold Hg;simp;omega
 ·have:=Bf9 (a.map Prod.snd) 0 ⟨(n:Int),0,0,Ig,Ig,0⟩ rfl Fr j;unfold Cn;rw[this];unfold Hg at b ⊢;simp only[Ws,Bwu]at b;simp only[Bsb,Buw,Brz,Br1,Nat.sub_zero];by_cases g:j<a.length
  ·rw[Th g,Vm,Bsf,Vm,Br6 g];cases h:a[j]? with
   | none=>rfl
   | some v=>rfl
  rw[Pk g,Vm (l:=a++_),Br0 Ck,List.getElem?_replicate,Th Ck];show Ig.getD j 0=0;have:j<8:=Ck
  match j,this with
  | 0,_=>rfl
  | 1,_=>rfl
  | 2,_=>rfl
  | 3,_=>rfl
  | 4,_=>rfl
  | 5,_=>rfl
  | 6,_=>rfl
  | 7,_=>rfl
 ·exact(Ua _ 0 _).2.2
 rw[show (Cn (n:Int) (a.map Prod.snd)).h=0 from (Ua _ 0 _).2.2];rfl
structure Tm(E:Cs)(d:Cv):Prop where
 os:d.os.length<=800
 each:∀q∈d.os,q.m<E.ms.length/\q.st.length<=800
 top:∀q r,d.os=q::r->q.p∈Cd.places (E.meth q.m).code
 ts:d.ts.length<=800
 md:d.made<=800
 out:d.out.length<=80000
 st:d.steps<=80000
def Fx (E:Cs)(fuel:Nat)(i0:Cv)(i1:Cv):Prop:=∀(P:Cv->Cv->Prop),(∀(d:Cv),0<=d.status->P d d)->(∀(d:Cv),d.status = -1->fuel<=d.steps->P d ⟨d.os,d.ts,d.made,d.read,d.out,d.steps,1,d.value⟩)->(∀(d d' e:Cv),d.status = -1->d.steps<fuel->Tm E d->Fp E d d'->P d' e->P d e)->P i0 i1
def Fx.done{E:Cs}{u:Nat}(d:Cv)(b:0<=d.status):Fx E u d d:=fun P c e f=>c d b
def Fx.out{E:Cs}{u:Nat}(d:Cv)(b:d.status = -1)(c:u<=d.steps):Fx E u d ⟨d.os,d.ts,d.made,d.read,d.out,d.steps,1,d.value⟩:=fun P f e g=>e d b c
def Fx.step{E:Cs}{u:Nat}(d d' e:Cv)(c:d.status = -1)(f:d.steps<u)(g:Tm E d)(h:Fp E d d')(i:Fx E u d' e):Fx E u d e:=fun P j l b=>b d d' e c f g h (i P j l b)
def Fx.el{E:Cs}{fuel:Nat}{M:(i0:Cv)->(i1:Cv)->Fx E fuel i0 i1->Prop}(done:∀(d:Cv) (q0:0<=d.status),M d d (Fx.done d q0))(out:∀(d:Cv) (q0:d.status = -1) (q1:fuel<=d.steps),M d ⟨d.os,d.ts,d.made,d.read,d.out,d.steps,1,d.value⟩ (Fx.out d q0 q1))(step:∀(d d' e:Cv) (q0:d.status = -1) (q1:d.steps<fuel) (q2:Tm E d) (q3:Fp E d d') (q4:Fx E fuel d' e),M d' e q4->M d e (Fx.step d d' e q0 q1 q2 q3 q4)){i0:Cv}{i1:Cv}(h:Fx E fuel i0 i1):M i0 i1 h :=
 (h (fun i0 i1=>∃k:Fx E fuel i0 i1,M i0 i1 k) (fun d q0=>⟨Fx.done d q0,done d q0⟩) (fun d q0 q1=>⟨Fx.out d q0 q1,out d q0 q1⟩) (fun d d' e q0 q1 q2 q3 ⟨q4,mq4⟩=>⟨Fx.step d d' e q0 q1 q2 q3 q4,step d d' e q0 q1 q2 q3 q4 mq4⟩)).elim fun _ m=>m
def Md:List Dj:=[Xg,⟨2,true,[]⟩,⟨3,true,[]⟩,⟨4,true,[]⟩,⟨5,true,[]⟩,⟨6,true,[]⟩]
def V0 (E:Cs)(k:Nat):Cv:=⟨[Hg E k []],Md,0,0,[],0,-1,0⟩
def Bej{z:TI}(h:Tr.Ok z){a B:Int}(c:0<=B)(f:a<(z.length:Int)):Tr.At z a B<->∃j,Tr.itr z j a=B:=by
 unfold Tr.At;rw[Tr.below_iff h c f]
 constructor
 ·rintro (e|⟨j,e⟩)
  ·exact⟨0,e.symm⟩
  exact⟨j+1,e⟩
 rintro ⟨j,e⟩;cases j with
 | zero=>exact .inl e.symm
 | succ j=>exact .inr ⟨j,e⟩
def Bh9{z:TI}(h:Tr.Ok z){a B:Int}(c:0<=B)(e:a<(z.length:Int))(k:Tr.At z a B):B<=a:=by
 rcases k with rfl|k
 ·exact Bu7 _
 have:=Tr.below_lt h c e k;omega
def Bgc{z:TI}(h:Tr.Ok z){c B d:Int}(p:0<=d)(e:0<=B)(f:c<(z.length:Int))(s:Tr.At z c B)(v:d<=B):Tr.At z c d<->Tr.At z B d:=by
 obtain⟨i,m⟩:=(Bej h e f).1 s;have:=Bh9 h e f s;rw[Bej h p f,Bej h p Ck]
 constructor
 ·rintro ⟨j,b⟩;by_cases g:i<=j;·refine⟨j-i,?_⟩;rw[<- m,<- Tr.itr_add,show i+(j-i)=j by omega];exact b
  have t:=Tr.itr_add z j (i-j) c;rw[show j+(i-j)=i by omega,m,b]at t;have A:=Tr.itr_down h (i-j) d (by rw[<- t];exact e);omega
 rintro ⟨j,b⟩;exact⟨i+j,by rw[Tr.itr_add,m];exact b⟩
def An{z:TI}(b:Tr.Ok z)(i:List Rd.Cls){c B:Int}(j:0<=c)(f:c<(z.length:Int))(g:0<=B)(h:Tr.At z c B):∀d:Nat,(d:Int)<=B+1->Rf.allTo z i c d=Rf.allTo z i B d
 | 0,_=>rfl
 | d+1,hd=>by
  have:=Bh9 b g f h;have e:Tr.rbel z c (d:Int)=Tr.rbel z B (d:Int):=Bool.eq_iff_iff.2 (by
   rw[Tr.rbel_iff b j f Ck,Tr.rbel_iff b g Ck Ck];exact Bgc b Ck g f h Ck)
  rw[Rf.allTo,Rf.allTo,An b i j f g h d Ck,e]
def Am(T:TI)(b:List Rd.Cls)(c:Int)(d:Nat):∀e:Nat,∃x,Rf.allTo T b c (d+e)=Rf.allTo T b c d++x
 | 0=>⟨[],Hd⟩
 | e+1=>by
  obtain⟨x,f⟩:=Am T b c d e;exact⟨x++_,by rw[<- Buc,Rf.allTo,f,Bsi]⟩
def Bpf{z:TI}(f:Tr.Ok z)(b:List Rd.Cls){c B:Int}(g:0<=c)(i:c<(z.length:Int))(e:0<=B)(h:Tr.At z c B):∃x,Rf.all z b c.toNat=Rf.all z b B.toNat++x:=by
 have:=Bh9 f e i h;unfold Rf.all;rw[Bsr g,Bsr e,<- An f b g i e h (B.toNat+1) Ck];obtain⟨x,j⟩:=Am z b c (B.toNat+1) (c.toNat-B.toNat);exact⟨x,by rw[<- j];congr 1;omega⟩
def Vw(b:List Rd.Cls):(Rf.given++b).length=(Tr.tree b).length:=by simp[Tr.tree,Rf.given,Tr.given]
def Bqp{m:List Rd.Cls}(b:Tr.Ok (Tr.tree m)){n:Nat}(e:n<(Cp m).length):∃q:Nat,q<(Tr.tree m).length/\((Cp m).getD n ⟨0,0,(0,0)⟩).owner=(q:Int)/\∃z:Nat,((Cp m).getD n ⟨0,0,(0,0)⟩).slot=(z:Int)/\Il (Tr.tree m) (Mn m) (n:Int)=(z:Int) /\ ∀c:Int,0<=c->c<((Tr.tree m).length:Int)->Tr.At (Tr.tree m) c (q:Int)->z<(Rf.all (Tr.tree m) (Rf.given++m) c.toNat).length/\(Rf.all (Tr.tree m) (Rf.given++m) c.toNat).getD z (0,0)=((Cp m).getD n ⟨0,0,(0,0)⟩).t:=by
 have l:=Vw m;have p:(Rf.given++m).length-7=m.length:=by simp[Rf.given]
 unfold Cp at e ⊢;rw[<- p]at e ⊢;obtain⟨q,G,I,i,s,v,A,B⟩:=Bc6 (Tr.tree m) (Rf.given++m) (by simp[Rf.given]) (Nf m) n e;rw[B];have f:q<(Tr.tree m).length:=Ck;have g:Rf.all (Tr.tree m) (Rf.given++m) q=Rf.allTo (Tr.tree m) (Rf.given++m) (q:Int) q++((Rf.given++m).getD q ⟨0,[]⟩).fields:=by
  unfold Rf.all;rw[Rf.allTo,Th ((Tr.rbel_iff b Ck Ck Ck).2 (.inl rfl))]
 have h:((Rf.all (Tr.tree m) (Rf.given++m) q).length:Int)-((((Rf.given++m).getD q ⟨0,[]⟩).fields.length:Nat):Int)+(i:Int)=(((Rf.allTo (Tr.tree m) (Rf.given++m) (q:Int) q).length+i:Nat):Int):=by
  rw[g,Ws];push_cast;omega
 refine⟨q,f,rfl,_,h,?_,fun c C D F=>?_⟩
 ·unfold Il Mn;rw[v];simp only;rw[Pk Ck,A,Un b _ l f];exact h
 obtain⟨x,j⟩:=Bpf b (Rf.given++m) C D Ck F;rw[Brx]at j;rw[j,g,Bsi];refine⟨by rw[Ws,Ws];omega,?_⟩;rw[Vm,Br0 Ck,Btu,Br6 s,<- Vm]
def Lm (t:Dj):Int × List Int:=(t.cl,t.vals.map Prod.snd)
abbrev Cs.M(E:Cs):Dn:=Ve E.cs E.ms E.ins E.heap E.depth
def Sq (E:Cs)(q:Bz)(c:Bi):Prop:=Fk q c/\c.pos=q.p/\c.next=Cg E q
structure Ik(E:Cs)(d:Cv)(o:Bz)(r:List Bz)(S:Bo):Prop where
 read:S.read=d.read
 objs:S.objs=d.ts.tail.map Lm
 now:Fk o S.now
 wait:Cm (Sq E) r S.wait.reverse
 en:S.ended=false
 out:S.out=d.out
 steps:S.steps=d.steps
def Gh (E:Cs)(d:Cv)(S:Bo):Prop:=∀(P:Prop),(∀(ω:Int->Nat × Int) (o:Bz) (r:List Bz),Sr E d ω o r->Ik E d o r S->S.now.next=o.p->P)->(S.ended=true->0<=d.status->S.status=d.status->S.value=d.value->S.out=d.out->S.steps=d.steps->P)->P 
def Gh.on{E:Cs}{d:Cv}{S:Bo}(ω:Int->Nat×Int)(o:Bz)(r:List Bz)(b:Sr E d ω o r)(c:Ik E d o r S)(e:S.now.next=o.p):Gh E d S:=fun P f g=>f ω o r b c e
def Gh.off{E:Cs}{d:Cv}{S:Bo}(b:S.ended=true)(c:0<=d.status)(e:S.status=d.status)(f:S.value=d.value)(g:S.out=d.out)(h:S.steps=d.steps):Gh E d S:=fun P j i=>i b c e f g h
def Gh.el{E:Cs}{d:Cv}{S:Bo}{M:Gh E d S->Prop}(on:∀(ω:Int->Nat×Int) (o:Bz) (r:List Bz),Sr E d ω o r->Ik E d o r S->S.now.next=o.p->∀h,M h)(off:S.ended=true->0<=d.status->S.status=d.status->S.value=d.value->S.out=d.out->S.steps=d.steps->∀h,M h)(h:Gh E d S ):M h:=h (∀h,M h) on off h
section
variable {E:Cs}{d:Cv}{ω:Int→Nat × Int}{o:Bz}{r:List Bz}{S:Bo}
def U8{n:Nat}(h:n<E.ms.length):E.M.meth (n:Int)=E.meth n:=by
 have e:E.M.ms=E.ms:=rfl;unfold Dn.meth Cs.meth;rw[Pk Ck,e,Pk Ck];rfl
def Cs.Ok.env(b:E.Ok){K:Rd.Mth}(c:K∈E.ms):(Ji E.cs E.ms K).Good:=Bec b.k c (b.cd K c)
def Bcg{ts:List Dj}{k:Int}(b:0<k)(c:k<(ts.length:Int)):Lr k (ts.tail.map Lm)=true/\K6 k (ts.tail.map Lm)=Lm (Cc ts k):=by
 unfold Lr K6 Cc;refine⟨Fr,?_⟩;rw[Vm,Bsf,List.getElem?_tail,show (k-1).toNat+1=k.toNat by omega,Vm,Brl Ck];rfl
def Bh0{I:List Dj}{k:Int}(c:0<k)(e:k<(I.length:Int)):Ho k (I.tail.map Lm)=(Cc I k).cl:=by
 obtain⟨a,b⟩:=Bcg c e;unfold Ho;rw[Th a,b];rfl
def Bkj{z:TI}(e:Tr.Ok z){c:Int}(f:0<=c)(i:c<(z.length:Int))(p:Nat):∀(b:List Rd.Hnd),(∀h∈b,0<=h.cl)->Hi z c p b=(Gf z c p b).map Int.toNat
 | [],_=>rfl
 | h::l,hh=>by
  unfold Hi Gf;rw[Se e f i (hh h Hd),Bkj e f i p l (fun x j=>hh x (by simp[j]))];unfold Fo;by_cases g:h.frm<=(p:Int)/\(p:Int)<h.til/\Tr.rbel z c h.cl=true;·rw[Th g,Th (by simp[g])];rfl
  rw[Pk g,Pk (by simp only[Bsq,Bsv];exact fun k=>g ⟨k.1.1,k.1.2,k.2⟩)]
def Bbh{z:TI}{c B:Int}{u:Nat}{b:List Rd.Hnd}(h:Gf z c u b=some B):∃x∈b,Fo x (u:Int)=true/\Tr.rbel z c x.cl=true/\x.target=B:=by
 induction b with
 | nil=>cases h
 | cons x l ih =>
  unfold Gf at h;by_cases g:x.frm<=(u:Int)/\(u:Int)<x.til/\Tr.rbel z c x.cl=true;·rw[Th g]at h;exact⟨x,Hd,by unfold Fo;simp[g],g.2.2,Option.some.inj h⟩
  rw[Pk g]at h;obtain⟨y,e,f⟩:=ih h;exact⟨y,by simp[e],f⟩
def Bl1{c:Bi}(h:Fk o c)(n:Int)(t:Nat):Fk ⟨o.m,t,o.lo,[(2,n)]⟩ (N4 n t c):=by
 refine⟨h.m,⟨h.wf.lo,by simp[N4,h.wf.st],by simp[N4]⟩,h.l8,h.lo,rfl,?_⟩;have:=h.wf.st;show (c.st.set 0 n).take 1=[n];cases e:c.st with
 | nil=>rw[e]at this;simp at this
 | cons a l=>rfl
def Kl.refl(b:List Dj)(ω:Int->Nat×Int)(P:Nat×Int->Prop):Kl b b ω ω P:=⟨Bru _,fun _ _ _ h=>⟨h,rfl⟩,fun _ _ _ h _=>⟨h,rfl,rfl⟩⟩
def Eo.ext{I c:List Dj}{f:Int->Nat×Int}{u:Nat}(e:Kl I c ω f (fun z=>z.1=u)){C:Int×Int}(h:Eo E I ω C r):r.length<=u->(∀q∈r,Aq I.length q)->Eo E c f C r:=by
 induction h using Eo.el with
 | nil C=>exact fun _ _=>.nil C
 | @cons C q r ρ x s h1 h2 h3 h4 h5 h6 _ ih =>
  intro g b;have j:∀i:Int,¬(r.length,i).1=u:=fun i=>by
   simp only[Br7]at g;show ¬r.length=u;omega
  exact .cons ρ x s h1 h2 h3 h4 h5 ⟨h6.lo.ext e (b q Hd).1 j,h6.st.ext e (b q Hd).2 j⟩ (ih (by simp only[Br7]at g;omega) (fun q l=>b q (by simp[l])))
structure Oj(E:Cs)(ts:List Dj)(ω:Int->Nat × Int)(i:Nat)(o:Bz):Prop where
 m:o.m<E.ms.length
 p:o.p∈Cd.places (E.meth o.m).code
 lo:∃ρ x,E.F o.m o.p=some x/\Cm (Ej E.T ts ω i ρ (Gz (E.meth o.m))) o.lo x.locals
def Oj.room(b:E.Ok){I:List Dj}{i:Nat}(h:Oj E I ω i o){c:Int}(e:Gf E.T c o.p (E.meth o.m).handlers≠none):1<=(E.meth o.m).stack:=by
 obtain⟨ρ,x,f,_⟩:=h.lo;obtain⟨t,g⟩:=Option.ne_none_iff_exists'.1 e;obtain⟨y,j,l,_,_⟩:=Bbh g;obtain⟨_,_,a,_⟩:=((b.sol (Cs.mem h.m)).sat o.p h.p x f).go _ _ _ (I8.hnd y j l);exact a
def Eo.stood{I:List Dj}{C:Int×Int}(h:Eo E I ω C r):∀q∈r,∃i,Oj E I ω i q:=by
 induction h using Eo.el with
 | nil=>simp
 | @cons C q r ρ x s h1 h2 h3 h4 h5 h6 _ ih =>
  intro z b;rcases List.mem_cons.1 b with rfl|b
  ·exact⟨_,h1,h2,ρ,x,h3,h6.lo⟩
  exact ih z b
def Bco(e:E.Ok){I:List Dj}{u:Nat}(f:Oj E I ω u o){c:Int}(g:0<=c)(j:c<(E.T.length:Int)){b:Bi}(l:b.meth=(o.m:Int))(q:b.pos=o.p):E.M.target c b=(Gf E.T c o.p (E.meth o.m).handlers).map Int.toNat:=by
 unfold Dn.target;rw[q,l,U8 f.m];exact Bkj e.k.ok g j o.p _ (fun h s=>by rcases((e.env (Cs.mem f.m)).hnd h s).2.2.2 with a | a | a | a | a<;>omega)
def Bbs(f:E.Ok)(g:Jx E d.ts ω)(D:d.status = -1/\d.value=0)(F:d.made+6=d.ts.length){c:Int}(h0:0<c)(G:c<(d.ts.length:Int))(j:(Cc d.ts c).set=true)(b:Oj E d.ts ω r.length o)(I:Eo E d.ts ω (E.meth o.m).result r)(l:∀q∈o::r,Aq d.ts.length q)(H:Ik E d o r S){B:Int}(J:Gf E.T (Cc d.ts c).cl o.p (E.meth o.m).handlers=some B):Gh E ⟨⟨o.m,B.toNat,o.lo,[(2,c)]⟩::r,d.ts,d.made,d.read,d.out,d.steps,d.status,d.value⟩ (S.withNow (N4 c B.toNat S.now)):=by
 obtain⟨K,L⟩:=g.Cl _ j;obtain⟨y,s,N,O,rfl⟩:=Bbh J;obtain⟨ρ,x,A,Q⟩:=b.lo;have C:=((f.env (Cs.mem b.m)).hnd y s).2.2.2;have V:0<=y.cl:=by rcases C with a|a | a | a | a<;>omega
 have Y:=Lh (f.P (Cs.mem b.m) A);have h:Ej E.T d.ts ω r.length ρ (Gz (E.meth o.m)) (2,c) (3,y.cl) :=
  ⟨fun e=>absurd e Hd,fun e=>absurd e Hd,fun _=>⟨rfl,.inr ⟨j,Tr.fits_ref.2 ((Tr.rbel_iff f.k.ok K L V).1 O)⟩⟩,fun e=>absurd e Hd⟩
 obtain⟨_,_,Z,zf,a4,a5⟩:=Bm4 f g.Cl b.m b.p A (I8.hnd y s N) ⟨Y.1,fun u hu=>by rw[List.mem_singleton.1 hu];exact C⟩ (o:=⟨o.m,y.target.toNat,o.lo,[(2,c)]⟩) rfl rfl ⟨Q,.cons h .nil⟩;refine .on ω _ r ⟨rfl,D,g,F,fun q i=>?_,⟨b.m,Z,⟨ρ,zf,a4,a5⟩,I⟩⟩ ⟨H.read,H.objs,Bl1 H.now c _,H.wait,H.en,H.out,H.steps⟩ rfl;rcases List.mem_cons.1 i with rfl|i
 ·exact⟨(l o Hd).1,fun v h=>by rw[List.mem_singleton.1 h];exact .inr (.inr ⟨rfl,Ck,G⟩)⟩
 exact l q (by simp[i])
def Bh6(j:E.Ok)(B:Jx E d.ts ω)(F:d.status = -1/\d.value=0)(G:d.made+6=d.ts.length){c:Int}(I:0<c)(J:c<(d.ts.length:Int))(C:(Cc d.ts c).set=true):∀(r:List Bz) (o:Bz) (S:Bo),Oj E d.ts ω r.length o->Eo E d.ts ω (E.meth o.m).result r->(∀q∈o::r,Aq d.ts.length q)->Ik E d o r S->S.now.pos=o.p->Gh E (Fj E c (Cc d.ts c).cl d (o::r)) (Jd E.M c (Cc d.ts c).cl (r.length+1) S):=by
 obtain⟨K,L⟩:=B.Cl _ C;intro r
 induction r with
 | nil =>
  intro o S g v A H D;have e:=Bco j g K L H.now.m D;unfold Fj Jd;rw[e];cases i:Gf E.T (Cc d.ts c).cl o.p (E.meth o.m).handlers with
  | some z=>exact Bbs j B F G I J C g v A H i
  | none =>
   have N:S.wait.reverse=[]:=by
    have:=H.wait.len;exact Bso this.symm
   rw[List.reverse_eq_nil_iff]at N;simp only[Option.map_none,N,List.getLast?_nil];exact .off rfl (by show (0:Int)<=2;omega) rfl rfl H.out H.steps
 | cons q r ih =>
  intro o S g v A H D;have e:=Bco j g K L H.now.m D;unfold Fj Jd;rw[e];cases i:Gf E.T (Cc d.ts c).cl o.p (E.meth o.m).handlers with
  | some z=>exact Bbs j B F G I J C g v A H i
  | none =>
   obtain⟨f,l,Q,O,V⟩:∃f l,S.wait.reverse=f::l/\Sq E q f/\Cm (Sq E) r l:=by
    have:=H.wait;cases h:S.wait.reverse with
    | nil=>rw[h]at this;cases this using Cm.el
    | cons f l=>rw[h]at this;cases this using Cm.el with
     | cons a b=>exact⟨f,l,rfl,a,b⟩
   have Y:S.wait=l.reverse++[f]:=by rw[<- Bw0 S.wait,Q,Btp]
   simp only[Option.map_none,Y,Bw1,Bwf,Option.some_or,Bw2];cases v using Eo.el with
   | cons ρ x s h1 h2 h3 h4 h5 h6 h7 =>
    exact ih q _ ⟨h1,h2,ρ,x,h3,h6.lo⟩ h7 (fun z i=>A z (by simp[i])) ⟨H.read,H.objs,O.1,by simpa using V,H.en,H.out,H.steps⟩ O.2.1
end
structure Cy(E:Cs)(d:Cv)(ω:Int->Nat × Int)(o:Bz)(r:List Bz)(S:Bo)(ρ:Int->Int)(x y:Bf)(op n:Int):Prop where
 ok:E.Ok
 g:Sr E d ω o r
 s:Ik E d o r S
 pos:S.now.pos=o.p
 nx:S.now.next=Cg E o
 fx:E.F o.m o.p=some x
 ty:Me E d.ts ω r.length ρ o x
 eo:(E.meth o.m).code.getD o.p 0=op
 en:Cd.atI (E.meth o.m).code ((o.p:Int)+1)=n
 mv:D7 E.T (Cp E.cs) E.ms E.all (Gz (E.meth o.m)) (E.meth o.m).result (o.p:Int) op n x=some y
 hi:(y.stack.length:Int)<=(E.meth o.m).stack
def Bpn (E:Cs)(d:Cv)(o:Bz)(r:List Bz)(op n:Int)(d':Cv):Prop:=∃s a,o.st=s++a/\Hh E.T d.ts a (Co (Cp E.cs) E.ms (E.meth o.m).result op n)=true /\
 ((∃t:Nat,0<t/\t<d.ts.length/\Di E d op n a=(t:Int)/\d'=Fj E (t:Int) (Cc d.ts t).cl d (⟨o.m,o.p,o.lo,s⟩::r)) \/
  (Di E d op n a=0/\Bq E (d.top ⟨o.m,o.p,o.lo,s⟩ r) ⟨o.m,o.p,o.lo,s⟩ r op n a d'))
def Fq (E:Cs)(d:Cv)(o:Bz)(r:List Bz)(op n:Int)(S':Bo):Prop:=∃d',Bpn E d o r op n d'/\Gh E d' S'
section
variable {E:Cs}{d:Cv}{ω:Int→Nat × Int}{o:Bz}{r:List Bz}{S:Bo}{ρ:Int→Int}{x y:Bf}{op n:Int}
def Cy.mem(h:Cy E d ω o r S ρ x y op n):E.meth o.m∈E.ms:=Cs.mem h.g.top.m
def Cy.good(h:Cy E d ω o r S ρ x y op n):Pa E.T (Cd.fieldSum E.cs:Int) E.ms (E.meth o.m):=h.ok.k.mt _ h.mem
def Cy.P(h:Cy E d ω o r S ρ x y op n):Io E.T (E.meth o.m) x:=h.ok.P h.mem h.fx
def Cy.num(h:Cy E d ω o r S ρ x y op n):Vg E.T (Cd.fieldSum E.cs:Int) E.ms (E.meth o.m) op n:=by
 have:=Sz h.good h.g.top.p;rw[h.eo,h.en]at this;exact this
def Cy.rl(h:Cy E d ω o r S ρ x y op n):Ec E.cs E.ms (E.meth o.m) o.p x=some y:=by
 unfold Ec Es;rw[h.eo,h.en];have e:D7 (Tr.tree E.cs) (Cp E.cs) E.ms (fun c=>Rf.all (Tr.tree E.cs) (Rf.given++E.cs) c.toNat) (fun q=>Cd.atI (E.meth o.m).code (q+1)) (E.meth o.m).result (o.p:Int) op n x=some y:=h.mv;rw[e,Bt7,Th h.hi]
def Cy.st8(h:Cy E d ω o r S ρ x y op n):(E.meth o.m).stack<=8:=h.good.rd.st.2
def Cy.lol(h:Cy E d ω o r S ρ x y op n):(o.lo.length:Int)=(E.meth o.m).locals:=by
 have:=h.ty.lo.len;have:=h.P.lo;have:=h.good.rd.lo.1;omega
def Cy.wl(h:Cy E d ω o r S ρ x y op n):∀v∈o.lo,Hz d.ts.length v:=(h.g.ws o Hd).1
def Cy.ws(h:Cy E d ω o r S ρ x y op n):∀v∈o.st,Hz d.ts.length v:=(h.g.ws o Hd).2
def Cy.on(h:Cy E d ω o r S ρ x y op n){d':Cv}{f:Int->Nat×Int}{t:Int->Int}{u:Nat}{q c:TP}{Y:Bo}(i:Dl op=true/\u=Cg E o\/Ei op=true/\0<=n/\u=n.toNat)(e:Kl d.ts d'.ts ω f (fun z=>z.1=r.length))(A:Jx E d'.ts f)(C:d'.os=⟨o.m,u,q,c⟩::r)(D:d'.status = -1/\d'.value=0)(F:d'.made+6=d'.ts.length) (ty:Me E d'.ts f r.length t ⟨o.m,u,q,c⟩ y)(G:Aq d'.ts.length ⟨o.m,u,q,c⟩)(s:Ik E d' ⟨o.m,u,q,c⟩ r Y)(nx:Y.now.next=u):Gh E d' Y:=by
 have I:=Pg h.ok.k h.mem h.g.top.p h.P h.rl;obtain⟨b,J⟩:∃b,I8 (Ji E.cs E.ms (E.meth o.m)) o.p x (u:Int) y b:=by
  have B:(Ji E.cs E.ms (E.meth o.m)).op o.p=op:=h.eo;rcases i with ⟨a,rfl⟩|⟨a,b,rfl⟩
  ·have e:((Cg E o:Nat):Int)=(Ji E.cs E.ms (E.meth o.m)).nx o.p:=by unfold Cg Jv.nx;push_cast;rfl
   rw[e];exact⟨_,.nxt y h.rl (by rw[B];exact a)⟩
  have e:((n.toNat:Nat):Int)=(Ji E.cs E.ms (E.meth o.m)).ar o.p:=by rw[Bsr b];exact h.en.symm
  rw[e];exact⟨_,.jmp y h.rl (by rw[B];exact a)⟩
 obtain⟨_,_,K,z,L,N⟩:=Bm4 h.ok A.Cl h.g.top.m h.g.top.p h.fx J (Lh I) (o:=⟨o.m,u,q,c⟩) rfl rfl ty;refine .on f _ r ⟨C,D,A,F,fun z j=>?_,⟨h.g.top.m,K,⟨t,z,L,N⟩,h.g.top.w.ext e (Bru _) (fun u i=>h.g.ws u (by simp[i]))⟩⟩ s nx;rcases List.mem_cons.1 j with rfl|j
 ·exact G
 have:=h.g.ws z (by simp[j]);exact⟨fun v l=>(this.1 v l).mono e.len,fun v l=>(this.2 v l).mono e.len⟩
def Cy.same(h:Cy E d ω o r S ρ x y op n){u:Nat}{q b:TP}{c:Bi}(f:Dl op=true/\u=Cg E o\/Ei op=true/\0<=n/\u=n.toNat)(tl:Cm (Ej E.T d.ts ω r.length ρ (Gz (E.meth o.m))) q y.locals)(i:Cm (Ej E.T d.ts ω r.length ρ (Gz (E.meth o.m))) b y.stack)(j:∀v∈q,v∈o.lo\/v∈o.st)(l:∀v∈b,v∈o.lo\/v∈o.st\/Hz d.ts.length v)(t:Fk ⟨o.m,o.p,q,b⟩ c)(nx:c.next=u):Gh E (d.top ⟨o.m,u,q,b⟩ r) (S.withNow c) :=
 h.on f (.refl _ _ _) h.g.hp rfl h.g.st h.g.md ⟨tl,i⟩ ⟨fun v e=>(j v e).elim (h.wl v) (h.ws v),fun v e=>(l v e).elim (h.wl v) (fun k=>k.elim (h.ws v) id)⟩ ⟨h.s.read,h.s.objs,t.at u,h.s.wait,h.s.en,h.s.out,h.s.steps⟩ nx
def Cy.throws(h:Cy E d ω o r S ρ x y op n){q:TP}{Y:Bo}(f:Ik E d ⟨o.m,o.p,o.lo,q⟩ r Y)(z:Y.now.pos=o.p)(A:∀v∈q,v∈o.st){c:Int}(j:0<c)(l:c<(d.ts.length:Int))(B:(Cc d.ts c).set=true):Gh E (Fj E c (Cc d.ts c).cl d (⟨o.m,o.p,o.lo,q⟩::r)) (Lf E.M c Y):=by
 have e:Y.wait.length=r.length:=by simpa using f.wait.len.symm
 unfold Lf;rw[f.objs,Bh0 j l,e];refine Bh6 h.ok h.g.hp h.g.st h.g.md j l B r _ Y ⟨h.g.top.m,h.g.top.p,ρ,x,h.fx,h.ty.lo⟩ h.g.top.w (fun b i=>?_) f z;rcases List.mem_cons.1 i with rfl|i
 ·exact⟨h.wl,fun v C=>h.ws v (A v C)⟩
 exact h.g.ws b (by simp[i])
def Cy.given(h:Cy E d ω o r S ρ x y op n){k:Nat}(b:1<=k)(c:k<=5):k<d.ts.length/\(Cc d.ts (k:Int)).set=true:=by
 have:=h.g.hp.six;refine⟨Ck,?_⟩;unfold Cc;rw[Brx,Vm,h.g.hp.gv k b c];rfl
def Cy.fault(h:Cy E d ω o r S ρ x y op n){s a:TP}{Y:Bo}(b:o.st=s++a)(e:Hh E.T d.ts a (Co (Cp E.cs) E.ms (E.meth o.m).result op n)=true)(f:Ik E d ⟨o.m,o.p,o.lo,s⟩ r Y)(g:Y.now.pos=o.p){k:Nat}(c:1<=k)(i:k<=5)(j:Di E d op n a=(k:Int)):Fq E d o r op n (Lf E.M (k:Int) Y):=by
 obtain⟨l,g2⟩:=h.given c i;exact⟨_,⟨s,a,b,e,.inl ⟨k,c,l,j,rfl⟩⟩,h.throws f g (fun v q=>by rw[b];simp[q]) Ck Ck g2⟩
def Bc2{z:TI}{C:Int×Int}(h:Tr.plainB z C.1 C.2=true):C.1=1\/C.1=3/\0<=C.2:=by
 rcases(Ha h).1 with a | a | a | a | a
 ·unfold Tr.plainB at h;rw[a.1]at h;simp at h
 ·exact .inl a.1
 ·unfold Tr.plainB at h;rw[a.1]at h;simp at h
 ·exact .inr ⟨a.1,a.2.1⟩
 exact absurd a.1 (Ha h).2
def lst{α β:Type}{R:α->β->Prop}{e:List α}{c:List β}(h:Cm R e c)(i:¬c.length<1)(b:β):∃s v,e=s++[v]/\Cm R s (c.take (c.length-1))/\R v (c.getD (c.length-1) b):=by
 rw[Xb c b Ck]at h;obtain⟨s,a,rfl,f,g⟩:=h.split;cases g using Cm.el with
 | cons x k=>cases k using Cm.el with
  | nil=>exact⟨s,_,rfl,f,x⟩
def Cy.low(h:Cy E d ω o r S ρ x y op n){k:Nat}(e:o.st.length+k<=y.stack.length):((o.st.length+k:Nat):Int)<=(E.meth o.m).stack:=by
 have:=h.hi;omega
def Bnw(h:Cy E d ω o r S ρ x y 2 n):Fq E d o r 2 n (Ch E.M 2 n S):=by
 obtain⟨f,l⟩:=h.num.loc (.inl rfl);have p:=h.lol;have b:=h.ty.lo.get n.toNat Ck (0,0) (0,0);have c:=h.mv;unfold D7 at c;rw[Th rfl]at c;by_cases g:(x.locals.getD n.toNat (0,0)).1=0;·rw[Th g]at c;cases c
 rw[Pk g]at c;obtain rfl:=Option.some.inj c;have q:=h.ty.st.len;have t:=h.low (k:=1) Fr;have z:=h.st8;have i:o.lo.getD n.toNat (0,0)∈o.lo:=Hf Ck;have j:=(h.P.tl _ (Hf (d:=(0,0)) (show n.toNat<x.locals.length by have:=h.ty.lo.len;omega))).1;refine⟨_,⟨o.st,[],Hd,rfl,.inr ⟨rfl,.load rfl f (by show n<(o.lo.length:Int);omega) ?_ (by show (o.st.length:Int)<(E.meth o.m).stack;omega)⟩⟩,?_⟩
 ·rcases j with a|a | a | a | a
  ·exact absurd a.1 g
  ·rw[b.int a.1];omega
  ·rw[b.null a.1];simp
  ·rw[(b.ref a.1).1];omega
  rw[(b.raw a.1).1];simp
 have e:Ch E.M 2 n S=S.withNow (D8 (o.lo.getD n.toNat (0,0)).2 S.now):=by
  rw[<- Boi h.s.now f Ck];rfl
 rw[e];exact h.same (.inl ⟨rfl,rfl⟩) h.ty.lo (h.ty.st.app (.cons b .nil)) (fun v b=>.inl b) (fun v b=>by
  rcases List.mem_append.1 b with k|k
  ·exact .inr (.inl k)
  rw[List.mem_singleton.1 k];exact .inl i) (Mw h.s.now _ Ck) (by rw[Fv];exact h.nx)
def Bld(h:Cy E d ω o r S ρ x y 3 n):Fq E d o r 3 n (Ch E.M 3 n S):=by
 obtain⟨f,A⟩:=h.num.loc (.inr rfl);have B:=h.lol;have b:=h.mv;unfold D7 at b;rw[Pk Ck,Th rfl]at b;by_cases g:x.stack.length<1;·rw[Th g]at b;cases b
 rw[Pk g]at b;obtain rfl:=Option.some.inj b;obtain⟨s,v,e,i,j⟩:=lst h.ty.st g (0,0);obtain⟨l,m,C,p⟩:=Ny h.s.now e;obtain⟨q,D,t⟩:=Bgs m f (show n<(o.lo.length:Int) by omega) v;refine⟨_,⟨o.st,[],Hd,rfl,.inr ⟨rfl,.store s v rfl f (by show n<(o.lo.length:Int);omega) e⟩⟩,?_⟩;have z:Ch E.M 3 n S=S.withNow (Ep n v.2 (Bv S.now).2):=by rw[<- l];rfl
 rw[z];exact h.same (.inl ⟨rfl,rfl⟩) (h.ty.lo.set n.toNat j) i (fun u c=>by
  rcases Vu c with k|k
  ·exact .inl k
  exact .inr (by rw[e,k];simp)) (fun u c=>.inr (.inl (by rw[e];simp[c]))) q (by rw[t,p];exact h.nx)
def Bpi(h:Cy E d ω o r S ρ x y 4 n)(f:Int):Fq E d o r 4 n (Ch E.M 4 f S):=by
 have b:=h.mv;unfold D7 at b;rw[Pk Ck,Pk Ck,Th rfl]at b;by_cases g:x.stack.length<1;·rw[Th g]at b;cases b
 rw[Pk g]at b;obtain rfl:=Option.some.inj b;obtain⟨s,v,e,i,m⟩:=lst h.ty.st g (0,0);obtain⟨p,j,q,l⟩:=Ny h.s.now e;exact⟨_,⟨o.st,[],Hd,rfl,.inr ⟨rfl,.pop s v rfl e⟩⟩,h.same (.inl ⟨rfl,rfl⟩) h.ty.lo i (fun u c=>.inl c) (fun u c=>.inr (.inl (by rw[e];simp[c]))) j (l.trans h.nx)⟩
def Bpm(h:Cy E d ω o r S ρ x y 5 n)(f:Int):Fq E d o r 5 n (Ch E.M 5 f S):=by
 have b:=h.mv;unfold D7 at b;rw[Pk Ck,Pk Ck,Pk Ck,Th rfl]at b;by_cases g:x.stack.length<1;·rw[Th g]at b;cases b
 rw[Pk g]at b;obtain⟨s,v,e,p,i⟩:=lst h.ty.st g (0,0);have q:x.stack++x.stack.drop (x.stack.length-1)=x.stack.take (x.stack.length-1)++[x.stack.getD (x.stack.length-1) (0,0),x.stack.getD (x.stack.length-1) (0,0)]:=by
  have j:=Xb x.stack (0,0) Ck;have t:x.stack.drop (x.stack.length-1)=[x.stack.getD (x.stack.length-1) (0,0)]:=by
   conv=>lhs;rw[j]
   rw[Bt4 Hd,Brq Hd,Btz]
  rw[t]
  conv=>lhs;rw[j]
  simp
 rw[q]at b;obtain rfl:=Option.some.inj b;have I:=h.ty.st.len;have J:o.st.length=s.length+1:=by rw[e];simp
 have z:((s.length+2:Nat):Int)<=(E.meth o.m).stack:=by
  have:=h.hi;simp only[Ws,Btr,Br7,Bs2]at this;omega
 have K:=h.st8;obtain⟨A,B,L,C⟩:=Ny h.s.now e;have D:=Mw B v (by show s.length<8;omega);have l:=Mw D v (by show (s++[v]).length<8;simp;omega);refine⟨_,⟨o.st,[],Hd,rfl,.inr ⟨rfl,.dup s v rfl e z⟩⟩,?_⟩;have F:Ch E.M 5 f S=S.withNow (D8 v.2 (D8 v.2 (Bv S.now).2)):=by rw[<- A];rfl
 rw[F];have G:s++[v]++[v]=s++[v,v]:=Hd;simp only[G]at l;exact h.same (.inl ⟨rfl,rfl⟩) h.ty.lo (p.app (.cons i (.cons i .nil))) (fun u c=>.inl c) (fun u c=>.inr (.inl (by rw[e];simp at c ⊢;omega))) l (by rw[Fv,Fv,C];exact h.nx)
def Bnr(h:Cy E d ω o r S ρ x y 6 n)(j:Int):Fq E d o r 6 n (Ch E.M 6 j S):=by
 have b:=h.mv;unfold D7 at b;rw[Pk Ck,Pk Ck,Pk Ck,Pk Ck,Th rfl]at b;by_cases g:x.stack.length<2;·rw[Th g]at b;cases b
 rw[Pk g]at b;obtain rfl:=Option.some.inj b;obtain⟨V,v,e,q,t⟩:=lst h.ty.st Ck (0,0);have A:(x.stack.take (x.stack.length-1)).length=x.stack.length-1:=Hd;obtain⟨s,u,B,c,f⟩:=lst q Ck (0,0);rw[A,show x.stack.length-1-1=x.stack.length-2 by omega]at c f;rw[Btw,Bum Ck]at c;rw[Vm,Bs0,Th Ck,<- Vm]at f;subst B;have i:o.st=s++[u,v]:=by rw[e];simp
 have Y:=h.ty.st.len;have Z:o.st.length=s.length+2:=by rw[i];simp
 have C:((s.length+2:Nat):Int)<=(E.meth o.m).stack:=by
  have:=h.hi;simp only[Ws,Btr,Br7,Bs2]at this;omega
 have h8:=h.st8;obtain⟨D,F,p3,G⟩:=Ny h.s.now e;obtain⟨I,J,t3,K⟩:=Ny F rfl;have L:=Mw J v (by show s.length<8;omega);have l:=Mw L u (by show (s++[v]).length<8;simp;omega);refine⟨_,⟨o.st,[],Hd,rfl,.inr ⟨rfl,.swap s u v rfl i C⟩⟩,?_⟩;have N:Ch E.M 6 j S=S.withNow (D8 u.2 (D8 v.2 (Bv (Bv S.now).2).2)):=by rw[<- D,<- I];rfl
 rw[N];have O:s++[v]++[u]=s++[v,u]:=Hd;simp only[O]at l;exact h.same (.inl ⟨rfl,rfl⟩) h.ty.lo (c.app (.cons t (.cons f .nil))) (fun u Q=>.inl Q) (fun z p=>.inr (.inl (by rw[i];simp at p ⊢;rcases p with k|k | k<;>simp[k]))) l (by rw[Fv,Fv,K,G];exact h.nx)
end
def Bcn{I:List Dj}{t:Dj}{k:Int}(b:0<=k)(c:k<(I.length:Int)):Cc (I++[t]) k=Cc I k:=by
 unfold Cc;rw[Vm,Br6 Ck,<- Vm]
def Bi3(b:List Dj)(t:Dj):Cc (b++[t]) (b.length:Int)=t:=by
 unfold Cc;rw[Brx,Vm,Br0 (Bru _),Bus];rfl
def Ur{I:List Dj}{t:Dj}{k:Nat}(b:k<I.length){c:Int}(e:0<=c):Cc (I.set k t) c=if c=(k:Int) then t else Cc I c:=by
 unfold Cc;rw[Vm,Bup];by_cases g:c=(k:Int);·rw[Th g,Th Ck,Th b];rfl
 rw[Pk g,Pk Ck,<- Vm]
def Bgn{I:List Dj}{k:Nat}(b:k<I.length):I[k]?=some (Cc I (k:Int)):=by
 unfold Cc;rw[Brx,Vm,Brl b];rfl
def Kl.weak{I f:List Dj}{ω g:Int->Nat×Int}{P Q:Nat×Int->Prop}(e:Kl I f ω g P)(h:∀z,P z->Q z):Kl I f ω g Q:=⟨e.len,e.set,fun k a b c i=>e.raw k a b c (fun j=>i (h _ j))⟩
section
variable {E:Cs}{d:Cv}{ω:Int→Nat × Int}{o:Bz}{r:List Bz}{S:Bo}{ρ:Int→Int}{x y:Bf}{n:Int}
def Cs.Ok.plain(b:E.Ok)(c:Int):∀t∈E.all c,Tr.plainB E.T t.1 t.2=true:=Ub b.k.fl (c.toNat:Int) (c.toNat+1)
def Yi(i:E.Ok){I b:List Dj}{f:Int->Nat×Int}{P:Nat×Int->Prop}(e:Kl I b ω f P){q:TP}{c:Int}(h:Cm (Ej E.T I ω 0 id id) q (E.all c))(j:∀v∈q,Hz I.length v):Cm (Ej E.T b f 0 id id) q (E.all c) :=
 h.mono (fun v l t m k=>k.ext e (j v l) (fun g=>absurd g (Ha (i.plain c t m)).2))
def Jx.new(m:E.Ok){I:List Dj}(h:Jx E I ω){l:Int->Nat×Int}{P:Nat×Int->Prop}(p:0<=n/\n<(E.T.length:Int))(e:Kl I (I++[⟨n,false,[]⟩]) ω l P):Jx E (I++[⟨n,false,[]⟩]) l:=by
 have A:=h.six;have f:∀{k:Nat},k<(I++[(⟨n,false,[]⟩:Dj)]).length->k<I.length/\Cc (I++[⟨n,false,[]⟩]) (k:Int)=Cc I k\/Cc (I++[⟨n,false,[]⟩]) (k:Int)=⟨n,false,[]⟩:=fun {k} f=>by
  by_cases g:k<I.length;·exact .inl ⟨g,Bcn Ck Ck⟩
  have:k=I.length:=by simp at f;omega
  subst this;exact .inr (Bi3 _ _)
 refine⟨Fr,fun k q s=>?_,?_,fun k t c=>?_,fun k c i=>?_,fun k c i=>?_,fun k c v j=>?_⟩
 ·rw[Br6 Ck];exact h.gv k q s
 ·rw[Br6 Ck];exact h.z
 ·rcases f c with ⟨a,b⟩|b<;>rw[b]
  ·exact h.cl k t a
  exact p
 ·rcases f c with ⟨a,b⟩|b<;>rw[b]at i ⊢
  ·exact Yi m e (h.vs k a i) (h.wv k a)
  cases i
 ·rcases f c with ⟨a,b⟩|b<;>rw[b]at i ⊢
  exact h.un k a i
 rcases f c with ⟨a,b⟩|b<;>rw[b]at j
 ·exact(h.wv k a v j).mono e.len
 cases j
def Jx.set(m:E.Ok){I:List Dj}(h:Jx E I ω){P:Nat×Int->Prop}{k:Nat}{t:Dj}(F:6<=k)(q:k<I.length)(s:t.set=true)(A:0<=t.cl/\t.cl<(E.T.length:Int))(e:Kl I (I.set k t) ω ω P)(i:Cm (Ej E.T I ω 0 id id) t.vals (E.all t.cl))(p:∀v∈t.vals,Hz I.length v):Jx E (I.set k t) ω:=by
 have l:∀j:Nat,j≠k/\Cc (I.set k t) (j:Int)=Cc I j\/Cc (I.set k t) (j:Int)=t:=fun j=>by
  rw[Ur q Ck];by_cases g:j=k;·exact .inr (Th Ck)
  exact .inl ⟨g,Pk Ck⟩
 refine⟨by rw[Bsl];exact h.six,fun j B C=>?_,?_,fun j D c=>?_,fun j c f=>?_,fun j c f=>?_,fun j c v i=>?_⟩
 ·rw[Bt2 Ck];exact h.gv j B C
 ·rw[Bt2 Ck];exact h.z
 all_goals rw[Bsl]at c
 ·rcases l j with ⟨_,b⟩|b<;>rw[b]
  ·exact h.cl j D c
  exact A
 ·rcases l j with ⟨_,b⟩|b<;>rw[b]at f ⊢
  ·exact Yi m e (h.vs j c f) (h.wv j c)
  exact Yi m e i p
 ·rcases l j with ⟨_,b⟩|b<;>rw[b]at f ⊢
  ·exact h.un j c f
  rw[s]at f;cases f
 rw[Bsl];rcases l j with ⟨_,b⟩|b<;>rw[b]at i
 ·exact h.wv j c v i
 exact p v i
def Bpk(h:Cy E d ω o r S ρ x y 15 n):Fq E d o r 15 n (Ch E.M 15 n S):=by
 have G:=h.num.cls (.inl rfl);have O:=h.g.md;have Q:S.objs.length+1=d.ts.length:=by
  rw[h.s.objs];have:=h.g.hp.six;simp;omega
 have I:Ch E.M 15 n S=L7 E.M n S:=rfl;rw[I];unfold L7;by_cases g:E.heap<=(d.made:Int);·rw[Th (show E.M.room<=(S.objs.length:Int)-5 by show E.heap<=_;omega)];exact h.fault (s:=o.st) (a:=[]) (k:=4) Hd rfl h.s h.pos Ck Ck (by unfold Di;simp[g])
 rw[Pk (show ¬E.M.room<=(S.objs.length:Int)-5 by show ¬E.heap<=_;omega),show (S.objs.length:Int)+1=(d.ts.length:Int) by omega];have j:=h.mv;unfold D7 at j;rw[Pk Ck,Pk Ck,Pk Ck,Pk Ck,Pk Ck,Th rfl]at j;obtain rfl:=Option.some.inj j;have f:=h.ty.st.len;have V:=h.low (k:=1) (by simp[Ci];omega);have Y:=h.st8;refine⟨_,⟨o.st,[],Hd,rfl,.inr ⟨by unfold Di;simp[g],.new rfl (by show (o.st.length:Int)<(E.meth o.m).stack;omega)⟩⟩,?_⟩;have c:Kl d.ts (d.ts++[⟨n,false,[]⟩]) ω (fun k=>if k=(d.ts.length:Int) then (r.length,(o.p:Int)) else ω k) (fun _=>False) :=
  ⟨Hd,fun k z A f=>by rw[Bcn z A];exact⟨f,rfl⟩,fun k z A f _=>by rw[Bcn z A];exact⟨f,rfl,Pk Ck⟩⟩
 have D:∀{B l:TP},Cm (Ej E.T d.ts ω r.length ρ (Gz (E.meth o.m))) B l->(∀v∈B,Hz d.ts.length v)->Cm (Ej E.T (d.ts++[⟨n,false,[]⟩]) (fun k=>if k=(d.ts.length:Int) then (r.length,(o.p:Int)) else ω k) r.length (fun q=>if q=(o.p:Int) then (d.ts.length:Int) else ρ q) (Gz (E.meth o.m))) B (Ci (4,(o.p:Int)) (0,0) l):=fun b J=>b.map (fun v K t _ k=>by
  by_cases C:t=(4,(o.p:Int));·rw[Th C];exact .top rfl
  rw[Pk C];have i:=k.ext c (J v K) (fun _=>id);refine⟨i.int,i.null,i.ref,fun g4=>?_⟩;have L:t.2≠(o.p:Int):=fun e=>C (Btq g4 e);rw[Pk L];exact i.raw g4)
 have b:Ej E.T (d.ts++[⟨n,false,[]⟩]) (fun k=>if k=(d.ts.length:Int) then (r.length,(o.p:Int)) else ω k) r.length (fun q=>if q=(o.p:Int) then (d.ts.length:Int) else ρ q) (Gz (E.meth o.m)) (2,(d.ts.length:Int)) (4,(o.p:Int)):=by
  refine⟨fun e=>absurd e Hd,fun e=>absurd e Hd,fun e=>absurd e Hd,fun _=>?_⟩;dsimp only;rw[Th rfl,Bi3,Th rfl];exact⟨rfl,by have:=h.g.hp.six;omega,Fr,rfl,h.en.symm,rfl⟩
 refine h.on (.inl ⟨rfl,rfl⟩) (c.weak (fun _ k=>k.elim)) (h.g.hp.new h.ok G c) rfl h.g.st (by show d.made+1+6=(d.ts++[_]).length;rw[Ws];show _=d.ts.length+1;omega) ⟨D h.ty.lo h.wl,(D h.ty.st h.ws).app (.cons b .nil)⟩ ⟨fun v b=>(h.wl v b).mono c.len,fun v b=>?_⟩ ⟨h.s.read,?_,?_,h.s.wait,h.s.en,h.s.out,h.s.steps⟩ ?_
 ·rcases List.mem_append.1 b with k|k
  ·exact(h.ws v k).mono c.len
  rw[List.mem_singleton.1 k];exact .inr (.inr ⟨rfl,Hd,Fr⟩)
 ·show S.objs++[(n,[])]=_;rw[h.s.objs,List.tail_append_of_ne_nil (fun e=>by have F:=h.g.hp.six;have N:d.ts=[]:=e;rw[N]at F;simp at F),Bse];rfl
 ·exact(Mw h.s.now (2,(d.ts.length:Int)) Ck).at _
 show (D8 _ S.now).next=_
 rw[Fv];exact h.nx
def Bcp{I:List Dj}{k:Nat}{t:Dj}(h:0<k):(I.set k t).tail.map Lm=(I.tail.map Lm).set (k-1) (Lm t):=by
 cases I with
 | nil=>rfl
 | cons a l =>
  obtain⟨j,rfl⟩:∃j,k=j+1:=⟨k-1,Ck⟩;simp
def Bny(h:Cy E d ω o r S ρ x y 16 n):Fq E d o r 16 n (Ch E.M 16 n S):=by
 have A:=h.num.cls (.inr (.inl rfl));have b:=h.mv;unfold D7 at b;rw[Pk Ck,Pk Ck,Pk Ck,Pk Ck,Pk Ck,Pk Ck,Th rfl]at b;unfold Ns at b;by_cases J:Ey E.T x.stack (E.all n)=false;·rw[Th J]at b;cases b
 rw[Pk J]at b;by_cases g2:x.stack.length<(E.all n).length+1;·rw[Th g2]at b;cases b
 rw[Pk g2]at b;have K:=h.ok.plain n;obtain⟨s1,i,e1,t1,L⟩:=Bpy h.ok h.g.hp.Cl h.ty.st (Lh h.P).2 (fun t p=>(Ha (K t p)).1) (by simpa using J);have N:(x.stack.take (x.stack.length-(E.all n).length)).length=x.stack.length-(E.all n).length:=Hd;obtain⟨s,v,rfl,O,Q⟩:=lst t1 Ck (0,0);rw[N]at O Q;rw[Btw,Bum Ck]at O;rw[Vm,Bs0,Th Ck,<- Vm]at Q;generalize x.stack.getD (x.stack.length-(E.all n).length-1) (0,0)=t at *;by_cases g3:t.1≠4;·rw[Th g3]at b;cases b
 rw[Pk g3]at b;by_cases g4:Gz (E.meth o.m) t.2≠n;·rw[Th g4]at b;cases b
 rw[Pk g4]at b;obtain rfl:=Option.some.inj b;have V:t.1=4:=by simpa using g3
 have a1:Gz (E.meth o.m) t.2=n:=by simpa using g4
 obtain⟨b1,b2,b3,B,Y,b6⟩:=Q.raw V;obtain⟨k,hk⟩:∃k:Nat,ρ t.2=(k:Int):=⟨(ρ t.2).toNat,Ck⟩;rw[hk]at b1 b2 b3 B Y b6;have C:k<d.ts.length:=Ck;have h6:6<=k:=by
  by_cases g:k<=5;·rw[(h.given (k:=k) Ck g).2]at B;cases B
  omega
 have a4:d.ts[k]?=some ⟨n,false,(Cc d.ts (k:Int)).vals⟩:=by
  rw[Bgn C,<- a1,<- Y,<- B]
 have G:o.st=s++(2,(k:Int))::i:=by rw[e1,b1];simp
 have p:∀{v u:Int×Int},Ej E.T d.ts ω r.length ρ (Gz (E.meth o.m)) v u->u=t->v=(2,(k:Int)):=fun f e=>by
  have:=(f.raw (by rw[e];exact V)).1;rw[e,hk]at this;exact this
 have a5:=Blb h.ok.k.ok h.g.hp.Cl L (fun t p=>Bc2 (K t p));have D:Kl d.ts (d.ts.set k ⟨n,true,i⟩) ω ω (fun z=>z=(r.length,t.2)) :=
  ⟨Hd,fun j Z N F=>by
   rw[Ur C Z];have:j≠(k:Int):=fun e=>by rw[e,B]at F;cases F
   rw[Pk this];exact⟨F,rfl⟩,fun j Z N F hn=>by
   rw[Ur C Z];have:j≠(k:Int):=fun e=>hn (by rw[e];exact b6);rw[Pk this];exact⟨F,rfl,rfl⟩⟩
 have tw:∀{a0 l:TP},Cm (Ej E.T d.ts ω r.length ρ (Gz (E.meth o.m))) a0 l->(∀v∈a0,Hz d.ts.length v)->Cm (Ej E.T (d.ts.set k ⟨n,true,i⟩) ω r.length ρ (Gz (E.meth o.m))) a0 (Ci t (3,n) l):=fun f hw=>f.map (fun v a6 u _ q=>by
  by_cases I:u=t;·rw[Th I,p q I];refine⟨fun e=>absurd e Hd,fun e=>absurd e Hd,fun _=>⟨rfl,.inr ?_⟩,fun e=>absurd e Hd⟩;rw[Ur C Hd,Th rfl];exact⟨rfl,Tr.fits_refl _ _ _⟩
  rw[Pk I];exact q.ext D (hw v a6) (fun g4 e=>I (Btq (g4.trans V.symm) (Prod.mk.inj e).2)))
 have a2:∀v∈s,v∈o.st:=fun v f=>by rw[G];simp[f]
 have a3:∀v∈i,Hz d.ts.length v:=fun v f=>h.ws v (by rw[G];simp[f]);refine⟨_,⟨o.st,[],Hd,rfl,.inr ⟨rfl,.init s i k _ rfl A.1 Ck G a5 a3 Ck a4⟩⟩,?_⟩;have ef:Dk E.M.T E.M.FL n=E.all n:=by
  have:=Un h.ok.k.ok (Rf.given++E.cs) (Vw E.cs) (c:=n.toNat) (show n.toNat<(Tr.tree E.cs).length by have h2:n<((Tr.tree E.cs).length:Int):=A.2;have:=A.1;omega);rw[Bsr A.1]at this;exact this
 obtain⟨p1,p2,p3,p4⟩:=Vk (E.all n).length h.s.now (s:=s++[(2,(k:Int))]) (a:=i) (by rw[G];simp) L.len;obtain⟨q1,q2,q3,q4⟩:=Ny p2 rfl;have e2:Ch E.M 16 n S=(S.withNow (Bv (Dt (E.all n).length S.now).2).2).withObjs ((d.ts.set k ⟨n,true,i⟩).tail.map Lm):=by
  show Lq E.M n S=_;unfold Lq;rw[ef];show (S.withNow _).withObjs (P9 (Bv (Dt (E.all n).length S.now).2).1 (Dt (E.all n).length S.now).1 S.objs)=_;obtain⟨z1,z2⟩:=Bcg (ts:=d.ts) (k:=(k:Int)) Ck Ck;rw[q1,p1,h.s.objs,Bcp Ck];unfold P9;show (S.withNow _).withObjs (if Lr (k:Int) _=true then _ else _)=_
  rw[Th z1,z2,show ((k:Int)-1).toNat=k-1 by omega];have:(Lm (Cc d.ts (k:Int))).1=n:=by rw[<- a1,<- Y];rfl
  rw[this];rfl
 rw[e2];refine h.on (.inl ⟨rfl,rfl⟩) (D.weak (fun z e=>by rw[e])) (h.g.hp.set h.ok h6 C rfl A D (L.plain (fun t p=>(Ha (K t p)).2)) a3) rfl h.g.st (by show d.made+6=(d.ts.set k _).length;rw[Bsl];exact h.g.md) ⟨tw h.ty.lo h.wl,?_⟩ ⟨fun v f=>(h.wl v f).mono D.len,fun v f=>(h.ws v (a2 v f)).mono D.len⟩ ⟨h.s.read,rfl,q2.at _,h.s.wait,h.s.en,h.s.out,h.s.steps⟩ (by show (Bv _).2.next=_;rw[q4,p4];exact h.nx)
 exact tw O (fun v f=>h.ws v (a2 v f))
end
def Bmm(v:Int):Jb v=Fy v:=by
 unfold Jb Fy;by_cases g:0<=v
 ·rw[Bv0 g]
  split<;>omega
 have e:v.tmod 4294967296 = -((-v)%4294967296):=by
  rw[<- Bv0 Ck,Int.neg_tmod,Int.neg_neg]
 rw[e]
 split<;>omega
def Bim{c:Int}(h:-2147483648<=c/\c<=2147483647):Fy c=c:=by unfold Fy;omega
def Y9(v:Int):-2147483648<=Fy v/\Fy v<=2147483647:=by unfold Fy;omega
def Bp2{op a b:Int}(j:7<=op/\op<=10)(h:-2147483648<=a/\a<=2147483647)(i:-2147483648<=b/\b<=2147483647)(g:op=10->b≠0):Ia op a b=some (Ip op a b)/\-2147483648<=Ip op a b/\Ip op a b<=2147483647:=by
 unfold Ia Ip;rw[Bim h,Bim i];simp only[Bmm];by_cases c:op=7;·rw[Th c,Th c];exact⟨rfl,Y9 _⟩
 rw[Pk c,Pk c];by_cases e:op=8;·rw[Th e,Th e];exact⟨rfl,Y9 _⟩
 rw[Pk e,Pk e];by_cases f:op=9;·rw[Th f,Th f];exact⟨rfl,Y9 _⟩
 rw[Pk f,Pk f,Pk (g Ck),Pk (g Ck)];exact⟨rfl,Y9 _⟩
def Bqv{z:TI}(e:∀x∈z,0<=x)(f:∀x∈z,x<=255)(i:Int):-1<=Cd.atI z i/\Cd.atI z i<=255:=by
 unfold Cd.atI
 split
 ·omega
 split
 ·omega
 have b:z.getD i.toNat 0∈z:=Hf Ck;have:=e _ b;have:=f _ b;omega
def Hz.num{n:Nat}{C:Int×Int}(h:Hz n C)(b:C.1=1):-2147483648<=C.2/\C.2<=2147483647:=by
 rcases h with h|h|h
 ·rw[h]at b;simp at b
 ·exact h.2
 omega
def Hz.ref{n:Nat}{C:Int×Int}(h:Hz n C)(b:C.1=2):0<=C.2/\C.2<(n:Int):=by
 rcases h with h|h|h
 ·rw[h]at b;simp at b
 ·omega
 exact h.2
def Cm.put{α β:Type}{R:α->β->Prop}{l:List α}{r:List β}(h:Cm R l r)(i:Nat){u:α}(b:β)(c:R u (r.getD i b)):Cm R (l.set i u) r:=by
 induction h using Cm.el generalizing i with
 | nil=>exact .nil
 | cons x hr ih=>cases i with
  | zero=>exact .cons c hr
  | succ j=>exact .cons x (ih j (by simpa using c))
def Bl0(l:TP)(z:Nat):(l.map Prod.snd).getD z 0=(l.getD z (0,0)).2:=by
 rw[Vm,Bsf,Vm];cases l[z]? <;> rfl
section
variable {E:Cs}{d:Cv}{ω:Int→Nat × Int}{o:Bz}{r:List Bz}{S:Bo}{ρ:Int→Int}{x y:Bf}{op n:Int}
def Cy.gen(h:Cy E d ω o r S ρ x y op n)(l:op≠2/\op≠3/\op≠4/\op≠5/\op≠6/\op≠15/\op≠16):∃f s a,o.st=s++a/\y=⟨x.locals,f++Dp (Cp E.cs) E.ms op n⟩/\Cm (Ej E.T d.ts ω r.length ρ (Gz (E.meth o.m))) s f/\Cm (Ej E.T d.ts ω r.length ρ (Gz (E.meth o.m))) a (Co (Cp E.cs) E.ms (E.meth o.m).result op n)/\Hh E.T d.ts a (Co (Cp E.cs) E.ms (E.meth o.m).result op n)=true:=by
 have b:=h.mv;obtain⟨p,q,v,z,A,B,C⟩:=l;unfold D7 at b;rw[Pk p,Pk q,Pk v,Pk z,Pk A,Pk B,Pk C]at b;have i:=Ug h.ok.k h.mem h.num;by_cases g:Ey E.T x.stack (Co (Cp E.cs) E.ms (E.meth o.m).result op n)=false;·rw[Th g]at b;cases b
 rw[Pk g]at b;obtain⟨s,a,e,D,j⟩:=Bpy h.ok h.g.hp.Cl h.ty.st (Lh h.P).2 (fun t c=>(Ha (i t c)).1) (by simpa using g);exact⟨_,s,a,e,(Option.some.inj b).symm,D,j,Blb h.ok.k.ok h.g.hp.Cl j (fun t c=>Bc2 (i t c))⟩
def Ik.pop(h:Ik E d o r S){s:TP}{v:Int×Int}(e:o.st=s++[v]):S.top=v.2/\Ik E d ⟨o.m,o.p,o.lo,s⟩ r S.popped/\S.popped.now.pos=S.now.pos/\S.popped.now.next=S.now.next:=by
 obtain⟨a,b,c,e⟩:=Ny h.now e;exact⟨a,⟨h.read,h.objs,b,h.wait,h.en,h.out,h.steps⟩,c,e⟩
def Cy.lays(h:Cy E d ω o r S ρ x y op n){u:Nat}{q a c:TP}{S':Bo}(e:Dl op=true/\u=Cg E o\/Ei op=true/\0<=n/\u=n.toNat)(f:o.st=q++a)(i:y=⟨x.locals,c⟩)(j:Cm (Ej E.T d.ts ω r.length ρ (Gz (E.meth o.m))) q c)(b:Ik E d ⟨o.m,o.p,o.lo,q⟩ r S')(nx:S'.now.next=u):Gh E (d.top ⟨o.m,u,o.lo,q⟩ r) S':=by
 subst i;exact h.on e (.refl _ _ _) h.g.hp rfl h.g.st h.g.md ⟨h.ty.lo,j⟩ ⟨h.wl,fun v l=>h.ws v (by rw[f];simp[l])⟩ ⟨b.read,b.objs,b.now.at u,b.wait,b.en,b.out,b.steps⟩ nx
def Cy.pushes(h:Cy E d ω o r S ρ x y op n){q a c:TP}{v t:Int×Int}{Y:Bo}(f:Dl op=true)(i:o.st=q++a)(j:y=⟨x.locals,c++[t]⟩)(e:Cm (Ej E.T d.ts ω r.length ρ (Gz (E.meth o.m))) q c)(l:Ej E.T d.ts ω r.length ρ (Gz (E.meth o.m)) v t)(z:Hz d.ts.length v)(b:Ik E d ⟨o.m,o.p,o.lo,q⟩ r Y)(nx:Y.now.next=Cg E o):(q.length:Int)<(E.meth o.m).stack/\Gh E (d.top ⟨o.m,Cg E o,o.lo,q++[v]⟩ r) (Y.push v.2):=by
 subst j;have C:=e.len;have A:(q.length:Int)<(E.meth o.m).stack:=by
  have:=h.hi;simp only[Ws,Br7,Bs2]at this;omega
 have D:=h.st8;refine⟨A,h.on (.inl ⟨f,rfl⟩) (.refl _ _ _) h.g.hp rfl h.g.st h.g.md ⟨h.ty.lo,e.app (.cons l .nil)⟩ ⟨h.wl,fun u B=>?_⟩ ⟨b.read,b.objs,(Mw b.now v (by show q.length<8;omega)).at _,b.wait,b.en,b.out,b.steps⟩ (by show (D8 v.2 Y.now).next=_;rw[Fv];exact nx)⟩
 rcases List.mem_append.1 B with k|k
 ·exact h.ws u (by rw[i];simp[k])
 rw[List.mem_singleton.1 k];exact z
def Wn{R:Int×Int->Int×Int->Prop}{a p:TP}(h:Cm R a p)(e:p=[]):a=[]:=by subst e;cases h using Cm.el;rfl
def Ux{R:Int×Int->Int×Int->Prop}{a l:TP}{C:Int×Int}(h:Cm R a l)(e:l=[C]):∃v,a=[v]/\R v C:=by
 subst e;cases h using Cm.el with
 | cons p q=>cases q using Cm.el with
  | nil=>exact⟨_,rfl,p⟩
def Bck{R:Int×Int->Int×Int->Prop}{a l:TP}{C b:Int×Int}(h:Cm R a l)(e:l=[C,b]):∃u v,a=[u,v]/\R u C/\R v b:=by
 subst e;cases h using Cm.el with
 | cons p q=>cases q using Cm.el with
  | cons p' q=>cases q using Cm.el with
   | nil=>exact⟨_,_,rfl,p,p'⟩
def Ble(h:Cy E d ω o r S ρ x y 0 n):Fq E d o r 0 n (Ch E.M 0 n S):=by
 obtain⟨t,s,a,b,c,f,g,i⟩:=h.gen Ck;obtain rfl:=Wn g rfl;have j:=Bqv h.good.bd.code0 h.good.rd.c255 ((o.p:Int)+1);rw[h.en]at j;have l:s=o.st:=by rw[b];simp
 subst l;obtain⟨m,q⟩:=h.pushes (v:=(1,L5 n)) rfl b c f ⟨fun _=>rfl,fun e=>absurd e Hd,fun e=>absurd e Hd,fun e=>absurd e Hd⟩ (.inr (.inl ⟨rfl,by unfold L5;simp only;split<;>omega,by unfold L5;simp only;split<;>omega⟩)) h.s h.nx
 exact⟨_,⟨o.st,[],b,i,.inr ⟨rfl,.push (.inl rfl) Ck Ck Ck m⟩⟩,q⟩
def Bnt(h:Cy E d ω o r S ρ x y 1 n)(c:Int):Fq E d o r 1 n (Ch E.M 1 c S):=by
 obtain⟨t,s,a,b,f,i,j,l⟩:=h.gen Ck;obtain rfl:=Wn j rfl;have m:s=o.st:=by rw[b];simp
 subst m;have z:=h.g.hp.six;obtain⟨p,q⟩:=h.pushes (v:=(2,0)) rfl b f i ⟨fun e=>absurd e Hd,fun _=>rfl,fun e=>absurd e Hd,fun e=>absurd e Hd⟩ (.inr (.inr ⟨rfl,Hd,Fr⟩)) h.s h.nx;exact⟨_,⟨o.st,[],b,l,.inr ⟨rfl,.push (.inr (.inl rfl)) Ck Ck Ck p⟩⟩,q⟩
def Bfm(h:Cy E d ω o r S ρ x y op n)(A:7<=op/\op<=10)(i:Int):Fq E d o r op n (Ch E.M op i S):=by
 obtain⟨xs,s,a,b,j,B,C,l⟩:=h.gen Ck;have D:Co (Cp E.cs) E.ms (E.meth o.m).result op n=[(1,0),(1,0)]:=by unfold Co;rw[Th Ck]
 have F:Dp (Cp E.cs) E.ms op n=[(1,0)]:=by unfold Dp;rw[Th Ck]
 obtain⟨u,v,rfl,G,I⟩:=Bck C D;rw[F]at j;have J:=(h.ws u (by rw[b];simp)).num (G.int rfl);have K:=(h.ws v (by rw[b];simp)).num (I.int rfl);obtain⟨L,N,O,Q⟩:=h.s.pop (s:=s++[u]) (v:=v) (by rw[b];simp);obtain⟨V,q,Y,Z⟩:=N.pop rfl;have hg:Dl op=true:=by unfold Dl;simp;omega
 have e1:Ch E.M op i S=L6 E.M op S:=by unfold Ch;rw[Pk Ck,Th Ck]
 rw[e1];unfold L6;rw[V,L];by_cases g:op=10/\v.2=0
 ·obtain⟨rfl,t⟩:=g;have c:Ia 10 u.2 v.2=none:=by
   unfold Ia;rw[Pk Ck,Pk Ck,Pk Ck,Th (by rw[t];rfl)]
  rw[c];exact h.fault (k:=1) b l q (by rw[Y,O];exact h.pos) Ck Ck (by unfold Di;simp[t])
 obtain⟨c,w2⟩:=Bp2 A J K (fun e k=>g ⟨e,k⟩);rw[c];obtain⟨h1,hB⟩:=h.pushes (v:=(1,Ip op u.2 v.2)) hg b j B ⟨fun _=>rfl,fun e=>absurd e Hd,fun e=>absurd e Hd,fun e=>absurd e Hd⟩ (.inr (.inl ⟨rfl,w2⟩)) q (by rw[Z,Q];exact h.nx);have ep:Kz E (d.top ⟨o.m,o.p,o.lo,s⟩ r) op n [u,v]=(1,Ip op u.2 v.2):=by
  unfold Kz;rw[Pk Ck,Pk Ck,Pk Ck,Pk Ck];rfl
 have z:=Bq.push (E:=E) (d:=d.top ⟨o.m,o.p,o.lo,s⟩ r) (o:=⟨o.m,o.p,o.lo,s⟩) (r:=r) (op:=op) (n:=n) (a:=[u,v]) Ck Ck Ck (fun _ _=>Hd) h1;rw[ep]at z;refine⟨_,⟨s,[u,v],b,l,.inr ⟨?_,z⟩⟩,hB⟩;unfold Di;by_cases f:op=10;·rw[Th f,Pk (show ¬(Hl [u,v]).2=0 from fun k=>g ⟨f,k⟩)]
 rw[Pk f,Pk Ck,Pk Ck,Pk Ck,Pk Ck,Pk Ck,Pk Ck]
def Cy.tgt(h:Cy E d ω o r S ρ x y op n)(b:Ei op=true):0<=n:=by
 have:=((h.ok.env h.mem).tgt o.p h.g.top.p (by show Ei ((E.meth o.m).code.getD o.p 0)=true;rw[h.eo];exact b)).1;rw[<- h.en];exact this
def Bnx(h:Cy E d ω o r S ρ x y 11 n):Fq E d o r 11 n (Ch E.M 11 n S):=by
 obtain⟨l,s,a,b,e,f,g,i⟩:=h.gen Ck;obtain rfl:=Wn g rfl;have j:s=o.st:=by rw[b];simp
 subst j;have c:=h.tgt rfl;refine⟨_,⟨o.st,[],b,i,.inr ⟨rfl,.jump Ck Ck Ck Ck c rfl⟩⟩,?_⟩;exact h.lays (S':=S.withNow (Ki n.toNat S.now)) (.inr ⟨rfl,c,rfl⟩) b e (by simpa[Dp] using f) ⟨h.s.read,h.s.objs,h.s.now.moved _ _,h.s.wait,h.s.en,h.s.out,h.s.steps⟩ rfl
def Bfn(h:Cy E d ω o r S ρ x y op n)(ho:12<=op/\op<=14):Fq E d o r op n (Ch E.M op n S):=by
 obtain⟨xs,s,a,b,i,C,D,F⟩:=h.gen Ck;have Q:Dl op=true:=by unfold Dl;simp;omega
 have G:Ei op=true:=by unfold Ei;simp;omega
 have I:=h.tgt G;have V:Dp (Cp E.cs) E.ms op n=[]:=by
  unfold Dp;rw[Pk Ck,Pk Ck,Pk Ck,Pk Ck,Pk Ck]
 rw[V,Btg]at i;have J:Di E d op n a=0:=by
  unfold Di;rw[Pk Ck,Pk Ck,Pk Ck,Pk Ck,Pk Ck,Pk Ck,Pk Ck]
 obtain⟨K,L,c,N,Y,Z⟩:(op=13->2<=a.length)/\1<=a.length/\∃c,Fk ⟨o.m,o.p,o.lo,s⟩ c/\c.next=Cg E o/\Ch E.M op n S=S.withNow (if Hq op a=true then Ki n.toNat c else c):=by
  have e1:Ch E.M op n S=S.withNow (Gq op n S.now):=by unfold Ch;rw[Pk Ck,Pk Ck,Th Ck]
  rw[e1];by_cases f:op=13
  ·obtain⟨u,v,rfl,hu,hv⟩:=Bck D (show _=[(1,0),(1,0)] by unfold Co;rw[Th Ck]);obtain⟨j,l,p3,q⟩:=h.s.pop (s:=s++[u]) (v:=v) (by rw[b];simp);obtain⟨q1,q2,q3,q4⟩:=l.pop rfl;refine⟨fun _=>Hd,Hd,_,q2.now,by rw[q4,q];exact h.nx,?_⟩;have z:(Bv S.now).1=v.2:=j;have a0:(Bv (Bv S.now).2).1=u.2:=q1;unfold Gq;rw[Pk Ck,Th f,a0,z,f];have:Hq 13 [u,v]=decide (u.2<v.2):=by unfold Hq;simp
   rw[this];by_cases g:u.2<v.2;·rw[Th g,Th (by simpa using g)];rfl
   rw[Pk g,Pk (by simpa using g)];rfl
  have A:∃t,Co (Cp E.cs) E.ms (E.meth o.m).result op n=[t]:=by
   unfold Co;by_cases B:op=12;·exact⟨_,by rw[Pk Ck,Th Ck]⟩
   exact⟨_,by rw[Pk Ck,Pk Ck,Th Ck]⟩
  obtain⟨t,A⟩:=A;obtain⟨v,rfl,hv⟩:=Ux D A;obtain⟨j,l,p3,q⟩:=h.s.pop b;refine⟨fun e=>absurd e f,Hd,_,l.now,by rw[q];exact h.nx,?_⟩;have z:(Bv S.now).1=v.2:=j;have e3:Gq op n S.now=if v.2=0 then Ki n.toNat (Bv S.now).2 else (Bv S.now).2:=by
   unfold Gq;rw[z];by_cases B:op=12;·rw[Th B]
   rw[Pk B,Pk f,Th Ck]
  have e4:Hq op [v]=decide (v.2=0):=by
   unfold Hq;have:op=12\/op=14:=Ck;rcases this with rfl|rfl<;>simp<;>exact Bool.beq_eq_decide_eq ..
  rw[e3,e4];by_cases g:v.2=0;·rw[Th g,Th (by simpa using g)];rfl
  rw[Pk g,Pk (by simpa using g)];rfl
 rw[Z];cases O:Hq op a with
 | true =>
  rw[Th rfl];exact⟨_,⟨s,a,b,F,.inr ⟨J,.jump Ck Ck K (fun _=>L) I O⟩⟩,h.lays (.inr ⟨G,I,rfl⟩) b i C ⟨h.s.read,h.s.objs,N.moved _ _,h.s.wait,h.s.en,h.s.out,h.s.steps⟩ rfl⟩
 | false =>
  rw[Pk Hd];exact⟨_,⟨s,a,b,F,.inr ⟨J,.stay Ck Ck K L O⟩⟩,h.lays (.inl ⟨Q,rfl⟩) b i C ⟨h.s.read,h.s.objs,N,h.s.wait,h.s.en,h.s.out,h.s.steps⟩ Y⟩
def Bqw(h:Cy E d ω o r S ρ x y 24 n)(l:Int):Fq E d o r 24 n (Ch E.M 24 l S):=by
 obtain⟨F,s,a,f,p,q,z,t⟩:=h.gen Ck;obtain rfl:=Wn z rfl;have A:s=o.st:=by rw[f];simp
 subst A;have B:Ch E.M 24 l S=Po E.M S:=rfl;rw[B];unfold Po;have C:E.M.ins=E.ins:=rfl;rw[C,h.s.read];by_cases g:d.read<E.ins.length
 ·rw[Th g];have D:E.ins.getD d.read 0∈E.ins:=Hf g;obtain⟨i,j⟩:=h.pushes (v:=(1,E.ins.getD d.read 0)) rfl f p q ⟨fun _=>rfl,fun e=>absurd e Hd,fun e=>absurd e Hd,fun e=>absurd e Hd⟩ (.inr (.inl ⟨rfl,h.ok.ins _ D⟩)) h.s h.nx;refine⟨_,⟨o.st,[],f,t,.inr ⟨rfl,.read rfl g i⟩⟩,?_⟩;cases j using Gh.el with
  | on ω' o' r' G H hn =>
   obtain⟨rfl,rfl⟩:o'=⟨o.m,Cg E o,o.lo,o.st++[(1,E.ins.getD d.read 0)]⟩/\r'=r:=by
    have:=G.os;simp only[Cv.top,List.cons.injEq]at this;exact⟨this.1.symm,this.2.symm⟩
   exact .on ω' _ _ ⟨rfl,G.st,G.hp,G.md,G.ws,G.top⟩ ⟨rfl,H.objs,H.now,H.wait,H.en,H.out,H.steps⟩ hn
  | off a b c=>have:=h.s.en;exact absurd (this.symm.trans a) Hd
 rw[Pk g];obtain⟨i,j⟩:=h.pushes (v:=(1,0)) rfl f p q ⟨fun _=>rfl,fun e=>absurd e Hd,fun e=>absurd e Hd,fun e=>absurd e Hd⟩ (.inr (.inl ⟨rfl,Hd,Hd⟩)) h.s h.nx;exact⟨_,⟨o.st,[],f,t,.inr ⟨rfl,.none rfl (by show E.ins.length<=d.read;omega) i⟩⟩,j⟩
def Bpj(h:Cy E d ω o r S ρ x y 25 n)(i:Int):Fq E d o r 25 n (Ch E.M 25 i S):=by
 obtain⟨z,s,a,c,e,j,l,m⟩:=h.gen Ck;obtain⟨v,rfl,f⟩:=Ux l rfl;obtain⟨p,b,A,q⟩:=h.s.pop c;have t:Dp (Cp E.cs) E.ms 25 n=[]:=rfl;rw[t,Btg]at e;refine⟨_,⟨s,[v],c,m,.inr ⟨rfl,.out rfl Hd⟩⟩,?_⟩;subst e;exact h.on (.inl ⟨rfl,rfl⟩) (.refl _ _ _) h.g.hp rfl h.g.st h.g.md ⟨h.ty.lo,j⟩ ⟨h.wl,fun v f=>h.ws v (by rw[c];simp[f])⟩ ⟨b.read,b.objs,b.now.at _,b.wait,b.en,by show S.out++[S.top]=_;rw[h.s.out,p];rfl,b.steps⟩ (by show S.popped.now.next=_;rw[q];exact h.nx)
end
section
variable {E:Cs}{d:Cv}{ω:Int→Nat × Int}{o:Bz}{r:List Bz}{S:Bo}{ρ:Int→Int}{x y:Bf}{op n:Int}
def Wl{I:List Dj}{u:Nat}{f:Int->Int}{C:Int×Int}{c:Int}(g:Ej E.T I ω u ρ f C (3,c))(h:Hz I.length C)(j:C.2≠0):∃k:Nat,C=(2,(k:Int))/\0<k/\k<I.length/\(Cc I (k:Int)).set=true/\Tr.At E.T (Cc I (k:Int)).cl c:=by
 obtain⟨a,b⟩:=g.ref rfl;obtain⟨l,m⟩:=b.resolve_left j;obtain⟨p,q⟩:=h.ref a;have e:((C.2.toNat:Nat):Int)=C.2:=Ck;refine⟨C.2.toNat,by rw[e];exact Btq a rfl,Ck,Ck,?_⟩;rw[e];exact⟨l,Tr.fits_ref.1 m⟩
def Bks(h:E.Ok){I:List Dj}(b:Jx E I ω)(i:0<=n/\n<(Cd.fieldSum E.cs:Int)){k:Nat}(j:k<I.length)(c:(Cc I (k:Int)).set=true)(f:Tr.At E.T (Cc I (k:Int)).cl (E.fld n).owner):∃z:Nat,(E.fld n).slot=(z:Int)/\Il E.T (Mn E.cs) n=(z:Int)/\z<(Cc I (k:Int)).vals.length/\(E.all (Cc I (k:Int)).cl).getD z (0,0)=(E.fld n).t:=by
 have C:=Px E.cs;obtain⟨q,D,l,z,m,g,p⟩:=Bqp h.k.ok (n:=n.toNat) Ck;rw[Bsr i.1]at g;obtain⟨s,v⟩:=b.Cl _ c;have e:(E.fld n).owner=(q:Int):=l;rw[e]at f;obtain⟨A,B⟩:=p _ s v f;have:=(b.vs k j c).len;exact⟨z,m,g,by rw[this];exact A,B⟩
def Cy.nfl(h:Cy E d ω o r S ρ x y op n)(b:op=17\/op=18):n.toNat<(Cp E.cs).length:=by
 have:=h.num.fld b;have:=Px E.cs;omega
def Bpl(h:Cy E d ω o r S ρ x y 17 n):Fq E d o r 17 n (Ch E.M 17 n S):=by
 obtain⟨xs,s,a,b,i,D,F,j⟩:=h.gen Ck;have G:Co (Cp E.cs) E.ms (E.meth o.m).result 17 n=[(3,(E.fld n).owner)]:=rfl;have I:Dp (Cp E.cs) E.ms 17 n=[(E.fld n).t]:=rfl;obtain⟨v,rfl,J⟩:=Ux F G;rw[I]at i;have c:=h.num.fld (.inl rfl);obtain⟨K,l,L,N⟩:=h.s.pop b;have O:Ch E.M 17 n S=Ke E.M n S:=rfl;rw[O];unfold Ke;rw[K];by_cases g:v.2=0;·rw[Th g];exact h.fault (k:=2) b j l (L.trans h.pos) Ck Ck (by unfold Di;simp[g])
 rw[Pk g];obtain⟨k,rfl,k0,e,q,Q⟩:=Wl J (h.ws v (by rw[b];simp)) g;obtain⟨z,f,V,A,Y⟩:=Bks h.ok h.g.hp c e q Q;have B:=(h.g.hp.vs k e q).get z A (0,0) (0,0);rw[Y]at B;have Z:=(Ha (Ww h.ok.k c).2).2;obtain⟨h1,hB⟩:=h.pushes (v:=(Cc d.ts (k:Int)).vals.getD z (0,0)) rfl b i D (B.plain Z) (h.g.hp.wv k e _ (Hf A)) l (N.trans h.nx);have ep:Kz E (d.top ⟨o.m,o.p,o.lo,s⟩ r) 17 n [(2,(k:Int))]=(Cc d.ts (k:Int)).vals.getD z (0,0):=by
  show (Cc d.ts (k:Int)).vals.getD (E.fld n).slot.toNat (0,0)=_;rw[f,Brx]
 have C:=Bq.push (E:=E) (d:=d.top ⟨o.m,o.p,o.lo,s⟩ r) (o:=⟨o.m,o.p,o.lo,s⟩) (r:=r) (op:=17) (n:=n) (a:=[(2,(k:Int))]) Ck (fun _=>⟨c.1,h.nfl (.inl rfl),by rw[f];omega,Hd,by show (k:Int)<(d.ts.length:Int);omega,by show (E.fld n).slot<((Cc d.ts (k:Int)).vals.length:Int);rw[f];omega⟩) Hd Ck h1;rw[ep]at C;refine⟨_,⟨s,_,b,j,.inr ⟨by unfold Di;simp at g ⊢;omega,C⟩⟩,?_⟩;have e2:Ss (k:Int) (Il E.M.T E.M.FL n) S.objs=((Cc d.ts (k:Int)).vals.getD z (0,0)).2:=by
  obtain⟨b1,b2⟩:=Bcg (ts:=d.ts) (k:=(k:Int)) Ck Ck;have b3:Il E.M.T E.M.FL n=(z:Int):=V;unfold Ss Iq;rw[b3,h.s.objs,b1,b2];simp only[Lm,Br1];rw[Th Fr,Brx];exact Bl0 _ _
 rw[e2];exact hB
def Bph(h:Cy E d ω o r S ρ x y 18 n):Fq E d o r 18 n (Ch E.M 18 n S):=by
 obtain⟨xs,s,a,c,I,O,Q,J⟩:=h.gen Ck;have V:Co (Cp E.cs) E.ms (E.meth o.m).result 18 n=[(3,(E.fld n).owner),(E.fld n).t]:=rfl;obtain⟨u,v,rfl,Y,Z⟩:=Bck Q V;have el:Dp (Cp E.cs) E.ms 18 n=[]:=rfl;rw[el,Btg]at I;have C:=h.num.fld (.inr rfl);obtain⟨p1,p2,p3,p4⟩:=h.s.pop (s:=s++[u]) (v:=v) (by rw[c];simp);obtain⟨q1,f,q3,q4⟩:=p2.pop rfl;have e1:Ch E.M 18 n S=Kd E.M n S:=rfl;rw[e1];unfold Kd;rw[q1,p1];by_cases g:u.2=0;·rw[Th g];exact h.fault (k:=2) c J f (by rw[q3,p3];exact h.pos) Ck Ck (by unfold Di;simp[g])
 rw[Pk g];obtain⟨k,rfl,K,i,A,ka⟩:=Wl Y (h.ws u (by rw[c];simp)) g;obtain⟨z,D,z2,L,z4⟩:=Bks h.ok h.g.hp C i A ka;have a0:=(Ha (Ww h.ok.k C).2).2;have wv:=h.ws v (by rw[c];simp);obtain⟨c0,c1⟩:=h.g.hp.Cl _ A;have h6:6<=k:=by
  by_cases g:k<=5;·have:=h.g.hp.gv k K g;rw[Bgn i]at this;rw[Option.some.inj this]at L;simp at L
  omega
 have l:Kl d.ts (d.ts.set k ⟨(Cc d.ts (k:Int)).cl,true,(Cc d.ts (k:Int)).vals.set z v⟩) ω ω (fun _=>False) :=
  ⟨Hd,fun j F hl B=>by
   rw[Ur i F];by_cases e:j=(k:Int);·rw[Th e,e];exact⟨rfl,rfl⟩
   ·rw[Pk e];exact⟨B,rfl⟩,fun j F hl B C=>by
   rw[Ur i F];have:j≠(k:Int):=fun e=>by rw[e,A]at B;cases B
   rw[Pk this];exact⟨B,rfl,rfl⟩⟩
 have N:=Bq.put (E:=E) (d:=d.top ⟨o.m,o.p,o.lo,s⟩ r) (o:=⟨o.m,o.p,o.lo,s⟩) (r:=r) (op:=18) (n:=n) (a:=[(2,(k:Int)),v]) rfl Hd C.1 (h.nfl (.inr rfl)) (by rw[D];omega) Hd (by show (k:Int)<(d.ts.length:Int);omega) (by show (E.fld n).slot<((Cc d.ts (k:Int)).vals.length:Int);rw[D];omega);have ed:(d.top ⟨o.m,o.p,o.lo,s⟩ r).with ((d.top ⟨o.m,o.p,o.lo,s⟩ r).ts.set (Ce [(2,(k:Int)),v]).2.toNat ⟨(Cc (d.top ⟨o.m,o.p,o.lo,s⟩ r).ts (Ce [(2,(k:Int)),v]).2).cl,(Cc (d.top ⟨o.m,o.p,o.lo,s⟩ r).ts (Ce [(2,(k:Int)),v]).2).set,(Cc (d.top ⟨o.m,o.p,o.lo,s⟩ r).ts (Ce [(2,(k:Int)),v]).2).vals.set (E.fld n).slot.toNat (Hl [(2,(k:Int)),v])⟩) ⟨o.m,Cg E ⟨o.m,o.p,o.lo,s⟩,o.lo,s⟩ r=d.with (d.ts.set k ⟨(Cc d.ts (k:Int)).cl,true,(Cc d.ts (k:Int)).vals.set z v⟩) ⟨o.m,Cg E o,o.lo,s⟩ r:=by
  show d.with (d.ts.set (k:Int).toNat ⟨(Cc d.ts (k:Int)).cl,(Cc d.ts (k:Int)).set,(Cc d.ts (k:Int)).vals.set (E.fld n).slot.toNat v⟩) _ r=_;rw[D,A,Brx,Brx];rfl
 rw[ed]at N;refine⟨_,⟨s,_,c,J,.inr ⟨by unfold Di;simp at g ⊢;omega,N⟩⟩,?_⟩;have e2:Ra (k:Int) (Il E.M.T E.M.FL n) v.2 S.objs=(d.ts.set k ⟨(Cc d.ts (k:Int)).cl,true,(Cc d.ts (k:Int)).vals.set z v⟩).tail.map Lm:=by
  obtain⟨b1,b2⟩:=Bcg (ts:=d.ts) (k:=(k:Int)) Ck Ck;have b3:Il E.M.T E.M.FL n=(z:Int):=z2;unfold Ra Iq;rw[b3,h.s.objs,b1,b2,Bcp K];simp only[Lm,Br1];rw[Th Fr,Brx,But,show ((k:Int)-1).toNat=k-1 by omega]
 subst I;refine h.on (.inl ⟨rfl,rfl⟩) (l.weak (fun _ k=>k.elim)) (h.g.hp.set h.ok h6 i rfl ⟨c0,c1⟩ l ((h.g.hp.vs k i A).put z (0,0) (by rw[z4];exact Z.plain a0)) (fun w b=>?_)) rfl h.g.st (by show d.made+6=(d.ts.set k _).length;rw[Bsl];exact h.g.md) ⟨h.ty.lo.mono (fun w b t _ q=>q.ext l (h.wl w b) (fun _=>id)),O.mono (fun w b t _ q=>q.ext l (h.ws w (by rw[c];simp[b])) (fun _=>id))⟩ ⟨fun w b=>(h.wl w b).mono l.len,fun w b=>(h.ws w (by rw[c];simp[b])).mono l.len⟩ ⟨f.read,e2,f.now.at _,f.wait,f.en,f.out,f.steps⟩ (by show S.popped.popped.now.next=_;rw[q4,p4];exact h.nx)
 rcases Vu b with G|G
 ·exact h.g.hp.wv k i w G
 rw[G];exact wv
def Bnz(h:Cy E d ω o r S ρ x y 19 n):Fq E d o r 19 n (Ch E.M 19 n S):=by
 obtain⟨I,s,a,b,m,p,q,c⟩:=h.gen Ck;obtain⟨v,rfl,e⟩:=Ux q (show _=[(3,0)] from rfl);obtain⟨f,J⟩:=h.num.cls (.inr (.inr rfl));obtain⟨t,i,z,A⟩:=h.s.pop b;have j:=h.ws v (by rw[b];simp);have B:Ch E.M 19 n S=if Jf E.T d.ts v (3,n)=true then S.popped.push v.2 else Lf E.M ((3:Nat):Int) S.popped:=by
  show Oz E.M n S=_;unfold Oz;rw[t];by_cases g:v.2=0
  ·have:Jf E.T d.ts v (3,n)=true:=by
    unfold Jf;rw[Pk Hd,Th (e.ref rfl).1,Th g]
   rw[Th g,Th this]
  rw[Pk g];obtain⟨k,rfl,K,L,l,N⟩:=Wl e j g;obtain⟨C,D⟩:=h.g.hp.Cl _ l;have:Jf E.T d.ts (2,(k:Int)) (3,n)=Tr.within E.T (Ho (k:Int) S.objs) n:=by
   unfold Jf;rw[Pk Hd,Th rfl,Pk g,h.s.objs,Bh0 Ck Ck,Se h.ok.k.ok C D f,l,Bts]
  rw[this];rfl
 rw[B];by_cases g:Jf E.T d.ts v (3,n)=true;·rw[Th g];obtain⟨F,G⟩:=h.pushes rfl b m p (Bq7 h.ok.k.ok h.g.hp.Cl f g) j i (A.trans h.nx);exact⟨_,⟨s,_,b,c,.inr ⟨by show (if Jf E.T d.ts v (3,n)=true then (0:Int) else 3)=0;rw[Th g],.push Ck Ck Hd Ck F⟩⟩,G⟩
 rw[Pk g];exact h.fault (k:=3) b c i (z.trans h.pos) Ck Ck (by show (if Jf E.T d.ts v (3,n)=true then (0:Int) else 3)=3;rw[Pk g])
def Blc(h:Cy E d ω o r S ρ x y 23 n)(e:Int):Fq E d o r 23 n (Ch E.M 23 e S):=by
 obtain⟨A,s,a,b,B,C,l,f⟩:=h.gen Ck;obtain⟨v,rfl,c⟩:=Ux l (show _=[(3,1)] from rfl);obtain⟨m,i,j,D⟩:=h.s.pop b;have p:Ch E.M 23 e S=Jc E.M S:=rfl;rw[p];unfold Jc;rw[m];by_cases g:v.2=0;·rw[Th g];exact h.fault (k:=2) b f i (j.trans h.pos) Ck Ck (by unfold Di;simp[g])
 rw[Pk g];obtain⟨k,rfl,q,t,z,F⟩:=Wl c (h.ws v (by rw[b];simp)) g;exact⟨_,⟨s,_,b,f,.inl ⟨k,q,t,by unfold Di;simp at g ⊢;omega,rfl⟩⟩,h.throws i (j.trans h.pos) (fun v c=>by rw[b];simp[c]) Ck Ck z⟩
def Bpg(h:Cy E d ω o r S ρ x y 22 n)(F:Int):Fq E d o r 22 n (Ch E.M 22 F S):=by
 obtain⟨xs,s,a,j,hy,t1,A,G⟩:=h.gen Ck;have Q:Co (Cp E.cs) E.ms (E.meth o.m).result 22 n=Ds (E.meth o.m).result:=rfl;have I:=Ug h.ok.k h.mem h.num;rw[Q]at A I;have V:Ch E.M 22 F S=Jq E.M S:=rfl;have Y:(E.M.meth S.now.meth).result=(E.meth o.m).result:=by rw[h.s.now.m,U8 h.g.top.m]
 obtain⟨J,Z,f,i,K⟩:a.length<=1/\((E.meth o.m).result.1=1->0<a.length)/\∃f,Ik E d ⟨o.m,o.p,o.lo,s⟩ r f/\Jq E.M S=Kf (E.meth o.m).result (Ce a).2 f/\(a=[]<->(E.meth o.m).result.1=0):=by
  unfold Jq;rw[Y];by_cases g:(E.meth o.m).result.1=0
  ·obtain rfl:=Wn A (by unfold Ds;rw[Th g]);rw[Th g];have e0:s=o.st:=by rw[j];simp
   subst e0;exact⟨Hd,Ck,S,h.s,rfl,by simp[g]⟩
  obtain⟨v,rfl,L⟩:=Ux A (show _=[(E.meth o.m).result] by unfold Ds;rw[Pk g]);rw[Pk g];obtain⟨p1,p2,p3,p4⟩:=h.s.pop j;exact⟨Hd,Hd,S.popped,p2,by rw[p1];rfl,by simp[g]⟩
 rw[V,K.1];obtain⟨-,N⟩:=K;unfold Kf;have hw:=h.g.top.w;have B:=i.wait;cases r with
 | nil =>
  have hn:f.wait=[]:=List.reverse_eq_nil_iff.1 (Bso B.len.symm);rw[hn];exact⟨_,⟨s,a,j,G,.inr ⟨rfl,.ret0 rfl rfl Z⟩⟩,.off rfl (Bu7 _) rfl rfl i.out i.steps⟩
 | cons q r =>
  obtain⟨c,l,hc,C,hr⟩:∃c l,f.wait.reverse=c::l/\Sq E q c/\Cm (Sq E) r l:=by
   cases h:f.wait.reverse with
   | nil=>rw[h]at B;cases B using Cm.el
   | cons c l=>rw[h]at B;cases B using Cm.el with
    | cons a b=>exact⟨c,l,rfl,a,b⟩
  have hS:f.wait=l.reverse++[c]:=by rw[<- Bw0 f.wait,hc,Btp]
  simp only[hS,Bw1,Bwf,Option.some_or,Bw2];cases hw using Eo.el with
  | cons ρ' x' s' h1 h2 h3 h4 h5 h6 h7 =>
   have hP:=Pg h.ok.k (Cs.mem h1) h2 (h.ok.P (Cs.mem h1) h3) h5;have a0:I8 (Ji E.cs E.ms (E.meth q.m)) q.p x' ((Cg E q:Nat):Int) ⟨x'.locals,s'++Ds (E.meth o.m).result⟩ false:=by
    have e:((Cg E q:Nat):Int)=(Ji E.cs E.ms (E.meth q.m)).nx q.p:=by unfold Cg Jv.nx;push_cast;rfl
    rw[e];exact .nxt _ h5 h4
   obtain⟨_,b2,b3,z,b4,b5⟩:=Bm4 h.ok h.g.hp.Cl h1 h2 h3 a0 (Lh hP) (o:=⟨q.m,Cg E q,q.lo,q.st++a⟩) rfl rfl ⟨h6.lo,h6.st.app (A.plain (fun t ht=>(Ha (I t ht)).2))⟩;have O:((q.st.length+a.length:Nat):Int)<=(E.meth q.m).stack:=by
    have a1:q.st.length=s'.length:=h6.st.len;have:=A.len;simp only[Ws]at b2;omega
   have h8:(E.meth q.m).stack<=8:=(h.ok.k.mt _ (Cs.mem h1)).rd.st.2;refine⟨_,⟨s,a,j,G,.inr ⟨rfl,.ret q r rfl rfl J (T7 h2) O⟩⟩,?_⟩;refine .on ω _ r ⟨rfl,h.g.st,h.g.hp,h.g.md,fun z D=>?_,⟨h1,b3,⟨ρ',z,b4,b5⟩,h7⟩⟩ ⟨i.read,i.objs,?_,by simpa using hr,i.en,i.out,i.steps⟩ ?_
   ·rcases List.mem_cons.1 D with rfl|D
    ·have:=h.g.ws q Hd;exact⟨this.1,fun v L=>by
      rcases List.mem_append.1 L with k|k
      ·exact this.2 v k
      exact h.ws v (by rw[j];simp[k])⟩
    exact h.g.ws z (by simp[D])
   ·by_cases g:(E.meth o.m).result.1=0
    ·obtain rfl:=N.2 g;show Fk _ (if (E.meth o.m).result.1=0 then c else _)
     rw[Th g,Btg];exact C.1.at _
    show Fk _ (if (E.meth o.m).result.1=0 then c else _)
    rw[Pk g];obtain⟨v,rfl⟩:∃v,a=[v]:=by
     match a,J,N with
     | [],_,k=>exact absurd (k.1 rfl) g
     | [v],_,_=>exact⟨v,rfl⟩
    exact(Mw C.1 v (by simp only[Br7,Bs2]at O;omega)).at _
   show (if (E.meth o.m).result.1=0 then c else D8 (Ce a).2 c).next=_
   split
   ·exact C.2.2
   rw[Fv];exact C.2.2
def Bd3(c:E.Ok){I:List Dj}(l:Sk E.T I){k:Nat}(m:k<E.ms.length){i:Nat}(j:Nat){ar:Int->Int}{a:TP}(g:Cm (Ej E.T I ω i ρ ar) a (Iy (E.meth k).cl (E.meth k).params)):(a.length:Int)<=(E.meth k).locals/\0∈Cd.places (E.meth k).code/\∃ρ f,E.F k 0=some f/\Me E I ω j ρ (Hg E k a) f:=by
 have e:=Cs.mem m;have G:=c.k.mt _ e;refine⟨by rw[g.len];exact G.own,Uj (c.cd _ e),ρ,?_⟩;obtain⟨f,p,h⟩:=(c.sol e).x0;have q:=Lh (Pt G);have s:∀t∈Iy (E.meth k).cl (E.meth k).params,t.1≠4:=fun t b=>by
  unfold Iy at b;rcases List.mem_append.1 b with b|b
  ·split at b
   ·simp at b
   rw[List.mem_singleton.1 b];simp
  exact(Ha (Nn G.ps t b)).2
 have v:∀n,Cm (Ej E.T I ω j ρ (Gz (E.meth k))) (List.replicate n (0,0)) (List.replicate n (0,0)):=fun n=>by
  induction n with
  | zero=>exact .nil
  | succ n ih=>exact .cons (.top rfl) ih
 have z:Cm (Ej E.T I ω j ρ (Gz (E.meth k))) (Hg E k a).lo (Er (E.meth k)).locals:=by
  unfold Hg Er Lg;rw[<- g.len];exact(g.plain s).app (v _)
 have hF:E.F k 0=some f:=p;refine⟨f,hF,Cm.le c.k.ok l h.lo q.1 (Lh (c.P e hF)).1 z,?_⟩;have this:Do E.T [] f.stack:=h.st;show Cm _ [] f.stack;cases A:f.stack with
 | nil=>exact .nil
 | cons _ _=>rw[A]at this;cases this
def Cy.opens(h:Cy E d ω o r S ρ x y op n){k:Nat}{q a e:TP}{Y:Bo}(f:k<E.ms.length)(l:o.st=q++a)(A:y=⟨x.locals,e++Ds (E.meth k).result⟩)(B:Dl op=true)(C:Cm (Ej E.T d.ts ω r.length ρ (Gz (E.meth o.m))) q e)(D:Cm (Ej E.T d.ts ω r.length ρ (Gz (E.meth o.m))) a (Iy (E.meth k).cl (E.meth k).params))(b:Ik E d ⟨o.m,o.p,o.lo,q⟩ r Y)(F:Y.now.pos=o.p)(nx:Y.now.next=Cg E o):(a.length:Int)<=(E.meth k).locals/\Gh E (d.top (Hg E k a) (⟨o.m,o.p,o.lo,q⟩::r)) (Y.opened (Cn (k:Int) (a.map Prod.snd))):=by
 obtain⟨t,G,I⟩:=Bd3 h.ok h.g.hp.Cl f (r.length+1) D;obtain⟨J,K⟩:=Bfu E k a t (h.ok.k.mt _ (Cs.mem f)).rd.lo.2;refine⟨t,.on ω _ _ ⟨rfl,h.g.st,h.g.hp,h.g.md,fun z c=>?_,⟨f,G,I,?_⟩⟩ ⟨b.read,b.objs,J,?_,b.en,b.out,b.steps⟩ K⟩
 ·rcases List.mem_cons.1 c with rfl|c
  ·refine⟨fun v i=>?_,by simp[Hg]⟩;rcases List.mem_append.1 i with j|j
   ·exact h.ws v (by rw[l];simp[j])
   rw[(List.mem_replicate.1 j).2];exact .inl rfl
  rcases List.mem_cons.1 c with rfl|c
  ·exact⟨h.wl,fun v i=>h.ws v (by rw[l];simp[i])⟩
  exact h.g.ws z (by simp[c])
 ·exact .cons ρ x e h.g.top.m h.g.top.p h.fx (by rw[h.eo];exact B) (by have:=h.rl;rw[A]at this;exact this) ⟨h.ty.lo,C⟩ h.g.top.w
 show Cm (Sq E) _ (Y.wait++[Y.now]).reverse;rw[List.reverse_append];exact .cons ⟨b.now,F,nx⟩ b.wait
def Bn0(h:Cy E d ω o r S ρ x y 20 n):Fq E d o r 20 n (Ch E.M 20 n S):=by
 obtain⟨N,s,a,b,i,v,f,j⟩:=h.gen Ck;obtain⟨z,O⟩:=h.num.mth (.inl rfl);obtain⟨k,rfl⟩:∃k:Nat,n=(k:Int):=⟨n.toNat,Ck⟩;have c:k<E.ms.length:=Ck;have A:Co (Cp E.cs) E.ms (E.meth o.m).result 20 (k:Int)=(E.meth k).params:=rfl;have B:Dp (Cp E.cs) E.ms 20 (k:Int)=Ds (E.meth k).result:=rfl;have C:(E.meth k).cl=255:=by
  have:=h.good.arg o.p h.g.top.p;unfold Cd.argAt at this;rw[Xd,h.eo,h.en]at this;simp only[Cd.argB,Br1,Brx,Bsq,Bvb,Bsv,show ¬(20:Int)=2 by omega,show ¬(20:Int)=3 by omega,show ¬(20:Int)<=14 by omega,show ¬(20:Int)=15 by omega,show ¬(20:Int)=16 by omega,show ¬(20:Int)=19 by omega,show ¬(20:Int)=17 by omega,show ¬(20:Int)=18 by omega,or_self,and_false,Btv,Bv7]at this;have e:(List.map Rd.Mth.cl E.ms).getD k 0=(E.meth k).cl:=by
   unfold Cs.meth;simp only[Vm,Bsf];rw[Brl c];rfl
  rw[<- e];exact this.2
 rw[A]at f;rw[B]at i;obtain⟨D,F,l,G⟩:=Vk (E.meth k).params.length h.s.now b f.len;have I:Ch E.M 20 (k:Int) S=Hj E.M (k:Int) (a.map Prod.snd) (S.withNow (Dt (E.meth k).params.length S.now).2):=by
  show Su E.M (k:Int) S=_;unfold Su;rw[U8 c];unfold Ih Fs;rw[D]
 have q:Ik E d ⟨o.m,o.p,o.lo,s⟩ r (S.withNow (Dt (E.meth k).params.length S.now).2):=⟨h.s.read,h.s.objs,F,h.s.wait,h.s.en,h.s.out,h.s.steps⟩;have t:(S.wait.length:Int)+1=(d.os.length:Int):=by
  have:=h.s.wait.len;rw[h.g.os];simp only[Bvn]at this;simp;omega
 have J:Cm (Ej E.T d.ts ω r.length ρ (Gz (E.meth o.m))) a (Iy (E.meth k).cl (E.meth k).params):=by
  unfold Iy;rw[Th C];exact f
 obtain⟨K,L⟩:=h.opens c b i rfl v J q (l.trans h.pos) (G.trans h.nx);rw[I];unfold Hj;by_cases g:E.depth<=(d.os.length:Int);·rw[Th (show E.M.depth<=((S.withNow _).wait.length:Int)+1 by show E.depth<=(S.wait.length:Int)+1;rw[t];exact g)];exact h.fault (k:=5) b j q (l.trans h.pos) Ck Ck (by unfold Di;simp[g])
 rw[Pk (show ¬E.M.depth<=((S.withNow _).wait.length:Int)+1 by show ¬E.depth<=(S.wait.length:Int)+1;rw[t];exact g)];exact⟨_,⟨s,a,b,j,.inr ⟨by unfold Di;simp[g],.call rfl z c K⟩⟩,L⟩
end
def Gg (T:TI)(cl name:Int)(m:Rd.Mth):Prop:=m.cl≠255/\m.name=name/\Tr.rbel T cl m.cl=true
def Bfz{z:TI}{c B b e:Int}{q:TP}{k:Nat}:∀(l:List Rd.Mth) (i:Nat),Im z c B b e q k i l=true->∀(t:Nat) (x:Rd.Mth),l[t]?=some x->Mi z c B b e q k (i+t) x=false
 | [],_,_,t,x,h=>by simp at h
 | m::l,i,h,t,x,hx=>by
  unfold Im at h;by_cases g:Mi z c B b e q k i m=true;·rw[Th g]at h;cases h
  rw[Pk g]at h;cases t with
  | zero =>
   obtain rfl:=Option.some.inj (show some m=some x from hx);simpa using g
  | succ t =>
   have:=Bfz l (i+1) h t x hx;rw[show i+(t+1)=i+1+t by omega];exact this
section
variable {E:Cs}{d:Cv}{ω:Int→Nat × Int}{o:Bz}{r:List Bz}{S:Bo}{ρ:Int→Int}{x y:Bf}{op n:Int}
def Xe{k:Nat}(h:k<E.ms.length):E.ms[k]?=some (E.meth k):=by
 unfold Cs.meth;rw[Vm,Brl h];rfl
def Z8(e:E.Ok){k b:Nat}(f:k<E.ms.length)(g:b<E.ms.length)(h:(E.meth k).cl≠255):Mi E.T (E.meth k).cl (E.meth k).name (E.meth k).result.1 (E.meth k).result.2 (E.meth k).params k b (E.meth b)=false:=by
 have c:=e.hd k f;unfold Hv On at c
 split at c
 ·cases c
 split at c
 ·cases c
 split at c
 ·cases c
 have:=Bfz _ _ c b (E.meth b) (Xe g);rw[Brz]at this;exact this
def Bbq(m:E.Ok){c B:Int}{u k:Nat}(h:u<E.ms.length)(i:k<E.ms.length)(b:Gg E.T c B (E.meth u))(f:Gg E.T c B (E.meth k))(e:(E.meth u).cl=(E.meth k).cl):u=k:=by
 have l:∀{u k:Nat},u<E.ms.length->k<E.ms.length->Gg E.T c B (E.meth u)->Gg E.T c B (E.meth k)->(E.meth u).cl=(E.meth k).cl->¬u<k:=fun {u k} h i b f e g=>by
  have:=Z8 m i h f.1;unfold Mi at this;rw[Pk (by rw[b.2.1,f.2.1];simp),Pk b.1,Th e]at this;simp at this;omega
 have:=l h i b f e;have:=l i h f b e.symm;omega
def Bk3(b:E.Ok){c B:Int}(s:0<=c)(l:c<(E.T.length:Int)){u k:Nat}(h:u<E.ms.length)(m:k<E.ms.length)(f:Gg E.T c B (E.meth u))(i:Gg E.T c B (E.meth k))(e:(E.meth u).cl<=(E.meth k).cl):(E.meth u).params=(E.meth k).params/\(E.meth u).result=(E.meth k).result:=by
 by_cases g:(E.meth u).cl=(E.meth k).cl;·rw[Bbq b h m f i g];exact⟨rfl,rfl⟩
 have t:∀{u:Nat},u<E.ms.length->Gg E.T c B (E.meth u)->0<=(E.meth u).cl/\(E.meth u).cl<(E.T.length:Int):=fun h f=>Kh.1 ((b.k.mt _ (Cs.mem h)).cl.resolve_left f.1);obtain⟨p,A⟩:=t h f;obtain⟨q,v⟩:=t m i;have z:=(Bgc b.k.ok p q l ((Tr.rbel_iff b.k.ok s l q).1 i.2.2) e).1 ((Tr.rbel_iff b.k.ok s l p).1 f.2.2);have:=Z8 b m h i.1;unfold Mi at this;rw[Pk (by rw[f.2.1,i.2.1];simp),Pk f.1,Pk g,(Tr.rbel_iff b.k.ok q v p).2 z]at this;simp only[Bts,Bty,Bool.not_eq_false',Bsv]at this;exact⟨this.1,this.2⟩
def Uh{cl name:Int}:∀(l:List Rd.Mth) (i b:Nat),(∀t m,l[t]?=some m->E.meth (i+t)=m)->(∀m∈l,Gg E.T cl name m->m.cl<=(E.meth (En E cl name l i b)).cl)/\(E.meth b).cl<=(E.meth (En E cl name l i b)).cl/\(En E cl name l i b=b\/∃t m,l[t]?=some m/\Gg E.T cl name m/\En E cl name l i b=i+t)
 | [],i,b,_=>⟨Hd,Bu7 _,.inl rfl⟩
 | m::l,i,b,h=>by
  have A:∀t m,l[t]?=some m->E.meth (i+1+t)=m:=fun t z c=>by rw[show i+1+t=i+(t+1) by omega];exact h (t+1) z c
  have B:E.meth i=m:=h 0 m rfl;unfold En;by_cases g:m.cl≠255/\m.name=name/\Tr.rbel E.T cl m.cl=true/\(E.meth b).cl<m.cl
  ·rw[Th g];obtain⟨p,j,f⟩:=Uh (cl:=cl) (name:=name) l (i+1) i A;rw[B]at j;refine⟨fun z c e=>?_,Ck,.inr ?_⟩
   ·rcases List.mem_cons.1 c with rfl|c
    ·exact j
    exact p z c e
   rcases f with f|⟨t,z,q,s,v⟩
   ·exact⟨0,m,rfl,⟨g.1,g.2.1,g.2.2.1⟩,f⟩
   exact⟨t+1,z,q,s,by rw[v];omega⟩
  rw[Pk g];obtain⟨p,j,f⟩:=Uh (cl:=cl) (name:=name) l (i+1) b A;refine⟨fun z c e=>?_,j,f.imp id ?_⟩
  ·rcases List.mem_cons.1 c with rfl|c
   ·have:¬(E.meth b).cl<z.cl:=fun k=>g ⟨e.1,e.2.1,e.2.2,k⟩;omega
   exact p z c e
  rintro ⟨t,z,q,s,v⟩;exact⟨t+1,z,q,s,by rw[v];omega⟩
def Uk{z:TI}{c B:Int}:∀(l:List Rd.Mth) (i s f:Int),(∀m∈l,(m.name==B&&Tr.within z c m.cl)=true<->Gg z c B m) ->
  (Gp z c B l i s f=s/\∀m∈l,Gg z c B m->m.cl<f)\/∃(t:Nat) (m:Rd.Mth),l[t]?=some m/\Gg z c B m/\Gp z c B l i s f=i+(t:Int)/\f<=m.cl/\∀e∈l,Gg z c B e->e.cl<=m.cl
 | [],_,_,_,_=>.inl ⟨rfl,Hd⟩
 | m::l,i,s,f,h=>by
  have I:∀e∈l,(e.name==B&&Tr.within z c e.cl)=true<->Gg z c B e:=fun e v=>h e (by simp[v]);have L:=h m Hd;have J:(m.name==B&&(decide (f<=m.cl)&&Tr.within z c m.cl))=true<->Gg z c B m/\f<=m.cl:=by
   rw[<- L];simp only[Bsq,Bsv]
   constructor
   ·exact fun k=>⟨⟨k.1,k.2.2⟩,k.2.1⟩
   exact fun k=>⟨k.1.1,k.2,k.1.2⟩
  unfold Gp;by_cases g:Gg z c B m/\f<=m.cl
  ·rw[Th (J.2 g)]
   right
   rcases Uk l (i+1) i m.cl I with ⟨a,b⟩|⟨t,e,A,C,D,F,G⟩
   ·refine⟨0,m,rfl,g.1,by rw[a];simp,g.2,fun e v p=>?_⟩;rcases List.mem_cons.1 v with rfl|v
    ·exact Bu7 _
    have:=b e v p;omega
   refine⟨t+1,e,A,C,by rw[D];push_cast;omega,Ck,fun u j p=>?_⟩;rcases List.mem_cons.1 j with rfl|j
   ·exact F
   exact G u j p
  rw[Pk (fun k=>g (J.1 k))];have K:Gg z c B m->m.cl<f:=fun k=>by
   have:¬f<=m.cl:=fun q=>g ⟨k,q⟩;omega
  rcases Uk l (i+1) s f I with ⟨a,b⟩|⟨t,e,A,C,D,F,G⟩
  ·refine .inl ⟨a,fun u j p=>?_⟩;rcases List.mem_cons.1 j with rfl|j
   ·exact K p
   exact b u j p
  refine .inr ⟨t+1,e,A,C,by rw[D];push_cast;omega,F,fun u j p=>?_⟩;rcases List.mem_cons.1 j with rfl|j
  ·have:=K p;omega
  exact G u j p
def Bpz(c:E.Ok){k:Nat}(i:k<E.ms.length){cl:Int}(v:0<=cl)(z:cl<(E.T.length:Int))(j:Gg E.T cl (E.meth k).name (E.meth k)):∃b,En E cl (E.meth k).name E.ms 0 k=b/\E.M.nearest cl (E.meth k).name=(b:Int)/\b<E.ms.length/\Gg E.T cl (E.meth k).name (E.meth b)/\(E.meth k).params=(E.meth b).params/\(E.meth k).result=(E.meth b).result:=by
 obtain⟨F,G,A⟩:=Uh (E:=E) (cl:=cl) (name:=(E.meth k).name) E.ms 0 k (fun t m h=>by
  rw[Brz];unfold Cs.meth;rw[Vm,h];rfl)
 obtain⟨l,p⟩:En E cl (E.meth k).name E.ms 0 k<E.ms.length/\Gg E.T cl (E.meth k).name (E.meth (En E cl (E.meth k).name E.ms 0 k)):=by
  rcases A with A|⟨t,m,e,s,B⟩
  ·rw[A];exact⟨i,j⟩
  have f:=(List.getElem?_eq_some_iff.1 e).1;rw[B,Brz];rw[Xe f]at e;obtain rfl:=Option.some.inj e;exact⟨f,s⟩
 generalize En E cl (E.meth k).name E.ms 0 k=b at *;obtain⟨I,J⟩:=Bk3 c v z i l j p G;refine⟨b,rfl,?_,l,p,I,J⟩;have O:(E.T.length:Int)<=13:=by
  have C:=Ie E.cs;have D:=c.k.l6;show ((Tr.tree E.cs).length:Int)<=13;omega
 have K:∀m∈E.ms,(m.name==(E.meth k).name&&Tr.within E.T cl m.cl)=true<->Gg E.T cl (E.meth k).name m:=fun m L=>by
  simp only[Bsq,Bvb];by_cases g:m.cl=255;·rw[g,Bah c.k.ok v z Ck];exact⟨fun q=>absurd q.2 Hd,fun q=>absurd g q.1⟩
  rw[Se c.k.ok v z (Kh.1 ((c.k.mt _ L).cl.resolve_left g)).1];exact⟨fun q=>⟨g,q.1,q.2⟩,fun q=>⟨q.2.1,q.2.2⟩⟩
 unfold Dn.nearest;show Gp E.T cl (E.meth k).name E.ms 0 0 0=(b:Int);rcases Uk E.ms 0 0 0 K with ⟨_,q⟩|⟨t,m,e,s,B,Q,N⟩
 ·have C:=q _ (Cs.mem i) j;have D:=(Kh.1 ((c.k.mt _ (Cs.mem i)).cl.resolve_left j.1)).1;omega
 have f:=(List.getElem?_eq_some_iff.1 e).1;rw[Xe f]at e;obtain rfl:=Option.some.inj e;have C:=F _ (Cs.mem f) s;have D:=N _ (Cs.mem l) p;rw[B,Bbq c f l s p Ck];omega
def Bns(h:Cy E d ω o r S ρ x y 21 n):Fq E d o r 21 n (Ch E.M 21 n S):=by
 obtain⟨xs,s,a,f,F,V,G,z⟩:=h.gen Ck;obtain⟨Y,n1⟩:=h.num.mth (.inr rfl);have Z:=h.num.own rfl;obtain⟨k,rfl⟩:∃k:Nat,n=(k:Int):=⟨n.toNat,Ck⟩;have i:k<E.ms.length:=Ck;have I:(E.meth k).cl≠255:=Z;have et:Co (Cp E.cs) E.ms (E.meth o.m).result 21 (k:Int)=(3,(E.meth k).cl)::(E.meth k).params:=rfl;have el:Dp (Cp E.cs) E.ms 21 (k:Int)=Ds (E.meth k).result:=rfl;rw[et]at G;rw[el]at F;obtain⟨v,c,rfl,hv,J⟩:∃v c,a=v::c/\Ej E.T d.ts ω r.length ρ (Gz (E.meth o.m)) v (3,(E.meth k).cl)/\Cm (Ej E.T d.ts ω r.length ρ (Gz (E.meth o.m))) c (E.meth k).params:=by
  cases G using Cm.el with
  | cons p q=>exact⟨_,_,rfl,p,q⟩
 obtain⟨p1,p2,p3,p4⟩:=Vk (E.meth k).params.length h.s.now (s:=s++[v]) (a:=c) (by rw[f];simp) J.len;obtain⟨q1,q2,q3,q4⟩:=Ny p2 rfl;have l:Ik E d ⟨o.m,o.p,o.lo,s⟩ r (S.withNow (Bv (Dt (E.meth k).params.length S.now).2).2):=⟨h.s.read,h.s.objs,q2,h.s.wait,h.s.en,h.s.out,h.s.steps⟩;have A:(S.withNow (Bv (Dt (E.meth k).params.length S.now).2).2).now.pos=o.p:=(q3.trans p3).trans h.pos;have a0:(S.withNow (Bv (Dt (E.meth k).params.length S.now).2).2).now.next=Cg E o:=(q4.trans p4).trans h.nx
 have e1:Ch E.M 21 (k:Int) S=Nq E.M (E.meth k).name v.2 (c.map Prod.snd) (S.withNow (Bv (Dt (E.meth k).params.length S.now).2).2):=by
  show Oy E.M (k:Int) S=_;unfold Oy;rw[U8 i];unfold Ih;rw[p1];show Nq E.M (E.meth k).name (Bv (Dt (E.meth k).params.length S.now).2).1 _ _=_;rw[q1];rfl
 rw[e1];unfold Nq;by_cases g:v.2=0;·rw[Th g];exact h.fault (k:=2) f z l A Ck Ck (by unfold Di;simp[g])
 rw[Pk g];obtain⟨j,rfl,j0,jl,K,ja⟩:=Wl hv (h.ws v (by rw[f];simp)) g;obtain⟨B,C⟩:=h.g.hp.Cl _ K;have a1:=Kh.1 ((h.ok.k.mt _ (Cs.mem i)).cl.resolve_left I);obtain⟨b,b1,b2,L,D,b5,b6⟩:=Bpz h.ok i B C ⟨I,rfl,(Tr.rbel_iff h.ok.k.ok B C a1.1).2 ja⟩;have a2:=Kh.1 ((h.ok.k.mt _ (Cs.mem L)).cl.resolve_left D.1);have eo:Ho ((2,(j:Int)):Int×Int).2 (S.withNow (Bv (Dt (E.meth k).params.length S.now).2).2).objs=(Cc d.ts (j:Int)).cl:=by
  rw[l.objs];exact Bh0 Ck Ck
 rw[eo,b2];have a3:Cm (Ej E.T d.ts ω r.length ρ (Gz (E.meth o.m))) ((2,(j:Int))::c) (Iy (E.meth b).cl (E.meth b).params):=by
  unfold Iy;rw[Pk D.1,<- b5];exact .cons ⟨fun e=>absurd e Hd,fun e=>absurd e Hd,fun _=>⟨rfl,.inr ⟨K,Tr.fits_ref.2 ((Tr.rbel_iff h.ok.k.ok B C a2.1).1 D.2.2)⟩⟩,fun e=>absurd e Hd⟩ J
 obtain⟨a4,hB⟩:=h.opens L f (by rw[<- b6];exact F) rfl V a3 l A a0;have N:(S.wait.length:Int)+1=(d.os.length:Int):=by
  have:=h.s.wait.len;rw[h.g.os];simp only[Bvn]at this;simp;omega
 have g':¬(j:Int)=0:=g;have O:N1 E (d.top ⟨o.m,o.p,o.lo,s⟩ r) (k:Int) (Ce ((2,(j:Int))::c)).2=b:=b1;unfold Hj;by_cases t:E.depth<=(d.os.length:Int);·rw[Th (show E.M.depth<=((S.withNow _).wait.length:Int)+1 by show E.depth<=(S.wait.length:Int)+1;rw[N];exact t)];exact h.fault (k:=5) f z l A Ck Ck (by unfold Di;simp[t];omega)
 rw[Pk (show ¬E.M.depth<=((S.withNow _).wait.length:Int)+1 by show ¬E.depth<=(S.wait.length:Int)+1;rw[N];exact t)];have Q:=Bq.send (E:=E) (d:=d.top ⟨o.m,o.p,o.lo,s⟩ r) (o:=⟨o.m,o.p,o.lo,s⟩) (r:=r) (op:=21) (n:=(k:Int)) (a:=(2,(j:Int))::c) rfl Y i Hd Hd (by show (j:Int)<(d.ts.length:Int);omega) (by rw[O];exact a4);rw[O]at Q;exact⟨_,⟨s,_,f,z,.inr ⟨by unfold Di;simp[t];omega,Q⟩⟩,hB⟩
def Cy.act(h:Cy E d ω o r S ρ x y op n){n':Int}(c:Cd.wd op=2->n'=n)(e:0<=op)(f:op<=25):Fq E d o r op n (Ch E.M op n' S):=by
 have b:op=0\/op=2\/op=3\/(11<=op/\op<=21)->n'=n:=fun g=>c (by unfold Cd.wd;rw[Th g]);by_cases g:7<=op/\op<=10;·exact Bfm h g n'
 by_cases g2:12<=op/\op<=14;·rw[b Ck];exact Bfn h g2
 have:op=0\/op=1\/op=2\/op=3\/op=4\/op=5\/op=6\/op=11\/op=15\/op=16\/op=17\/op=18\/op=19\/op=20\/op=21\/op=22\/op=23\/op=24\/op=25:=Ck;rcases this with rfl|rfl|rfl|rfl|rfl|rfl|rfl|rfl|rfl|rfl|rfl|rfl|rfl|rfl|rfl|rfl|rfl|rfl|rfl
 ·rw[b Ck];exact Ble h
 ·exact Bnt h _
 ·rw[b Ck];exact Bnw h
 ·rw[b Ck];exact Bld h
 ·exact Bpi h _
 ·exact Bpm h _
 ·exact Bnr h _
 ·rw[b Ck];exact Bnx h
 ·rw[b Ck];exact Bpk h
 ·rw[b Ck];exact Bny h
 ·rw[b Ck];exact Bpl h
 ·rw[b Ck];exact Bph h
 ·rw[b Ck];exact Bnz h
 ·rw[b Ck];exact Bn0 h
 ·rw[b Ck];exact Bns h
 ·exact Bpg h _
 ·exact Blc h _
 ·exact Bqw h _
 exact Bpj h _
def Bi7(c:E.Ok)(g:Sr E d ω o r)(s:Ik E d o r S)(nx:S.now.next=o.p):∃d',Fp E d d'/\Gh E d' (Gk E.M S):=by
 obtain⟨ρ,x,j,ty⟩:=g.top.ty;have C:=Cs.mem g.top.m;have G:=c.k.mt _ C;have e:=g.top.p;have f:=T7 e;obtain⟨D,F⟩:=Nw G.unread o.p e;have I:Fg E.M S.now=Cd.insAt (E.meth o.m).code o.p:=by
  unfold Fg Cd.one;rw[s.now.m,U8 g.top.m,nx,Th ⟨f,D,F⟩];rfl
 have O:(E.meth o.m).code.getD o.p 0∈(E.meth o.m).code:=Hf f;obtain⟨y,Q⟩:=((c.sol C).sat o.p e x j).rl;have J:Ec E.cs E.ms (E.meth o.m) o.p x=some y:=Q;unfold Ec Es at J;obtain⟨z,V,h⟩:=Option.bind_eq_some_iff.1 J;by_cases b:(z.stack.length:Int)<=(E.meth o.m).stack
 ·rw[Th b]at h;obtain rfl:=Option.some.inj h;have Y:Cy E ⟨d.os,d.ts,d.made,d.read,d.out,d.steps+1,d.status,d.value⟩ ω o r (Mh E.M S) ρ x z ((E.meth o.m).code.getD o.p 0) (Cd.atI (E.meth o.m).code ((o.p:Int)+1)) :=
   ⟨c,⟨g.os,g.st,g.hp,g.md,g.ws,g.top⟩,⟨s.read,s.objs,s.now.moved _ _,s.wait,s.en,s.out,by show S.steps+1=_;rw[s.steps]⟩,nx,by show (Fg E.M S.now).place.toNat+Cd.wd (Fg E.M S.now).op=_;rw[I];rfl,j,ty,rfl,rfl,V,b⟩
  obtain⟨d',⟨K,a,l,L,Z⟩,hB⟩:=Y.act (n':=(Cd.insAt (E.meth o.m).code o.p).n) (fun h2=>(Vv F h2).1) (G.bd.code0 _ O) D;refine⟨d',?_,by unfold Gk;rw[I];exact hB⟩;have N:∀v∈a,Hz d.ts.length v:=fun v hv=>(g.ws o Hd).2 v (by rw[l];simp[hv]);rcases Z with ⟨t,t0,tl,th,rfl⟩|⟨h0,hD⟩
  ·refine .thrown o r K a t g.os g.top.m f l L N t0 tl th (fun q A=>?_);rcases List.mem_cons.1 A with rfl|A
   ·exact⟨g.top.m,fun B=>Oj.room c (i:=r.length) ⟨g.top.m,e,ρ,x,j,ty.lo⟩ B⟩
   obtain⟨i,b⟩:=g.top.w.stood q A;exact⟨b.m,fun B=>b.room c B⟩
  exact .does o r K a d' g.os g.top.m f l L N h0 hD
 rw[Pk b]at h;cases h
def Cm.mem{α β:Type}{R:α->β->Prop}{l:List α}{r:List β}(h:Cm R l r):∀a∈l,∃b,R a b:=by
 induction h using Cm.el with
 | nil=>simp
 | cons x _ ih =>
  intro z c;rcases List.mem_cons.1 c with rfl|c
  ·exact⟨_,x⟩
  exact ih z c
def Bqq(g:Sr E d ω o r)(s:Ik E d o r S)(f:Et E.M S)(z:S.steps<=3000)(A:S.out.length<=S.steps):Tm E d:=by
 have t:=s.wait.len;rw[Bvn]at t;have B:=f.wt;have j:=f.ob;rw[s.objs]at j;simp at j;have C:=g.md;refine⟨by rw[g.os];simp;omega,fun q b=>?_,fun q D e=>?_,Ck,Ck,by rw[<- s.out];omega,by rw[<- s.steps];omega⟩
 ·rw[g.os]at b;rcases List.mem_cons.1 b with rfl|b
  ·have:=s.now.h;have:=s.now.wf.h;exact⟨g.top.m,Ck⟩
  obtain⟨i,v⟩:=g.top.w.stood q b;obtain⟨c,l⟩:=s.wait.mem q b;have:=l.1.h;have:=l.1.wf.h;exact⟨v.m,Ck⟩
 rw[g.os]at e;obtain⟨rfl,-⟩:=List.cons.inj e;exact g.top.p
def Bcs(i:E.Ok)(j:E.M.Small)(h:Nat)(l:h<=3000):∀(k:Nat) {d:Cv}{S:Bo},Gh E d S->Et E.M S->S.out.length<=S.steps->S.steps<=h->h+2<=k+S.steps->∃e,Fx E h d e/\(N5 E.M h k S).out=e.out/\(N5 E.M h k S).status=e.status/\(N5 E.M h k S).value=e.value/\(N5 E.M h k S).steps=e.steps
 | 0,_,_,_,_,_,h1,h2=>Ck
 | k+1,d,S,hB,hb,ho,h1,h2=>by
  unfold N5;cases hB using Gh.el with
  | off a b c e f g =>
   rw[Th a];exact⟨d,.done d b,f,c,e,g⟩
  | on ω o r G H nx =>
   rw[Pk (by rw[H.en];simp)];by_cases g:h<=S.steps;·rw[Th g];exact⟨_,.out d G.st.1 (by rw[<- H.steps];exact g),H.out,rfl,G.st.2.symm,H.steps⟩
   rw[Pk g];obtain⟨d',m,p⟩:=Bi7 i G H nx;obtain⟨q,s,-⟩:=Rr E.M S;have t:(Gk E.M S).out.length<=(Gk E.M S).steps:=by
    rcases s with e|⟨v,e⟩<;>rw[e,q]
    ·omega
    simp;omega
   obtain⟨e,z,A⟩:=Bcs i j h l k p (Bft j hb) t Ck Ck;exact⟨e,.step d d' e G.st.1 (by rw[<- H.steps];omega) (Bqq G H hb Ck ho) m z,A⟩
end
def Bbv{z:TI}(b:List Rd.Cls)(c:Int):∀d:Nat,d<=7->Rf.allTo z (Rf.given++b) c d=[]
 | 0,_=>rfl
 | d+1,h=>by
  rw[Rf.allTo,Bbv b c d Ck,Nf b d Ck]
  split<;>rfl
def Bd1{k:Nat}(h:k<6):k=0/\Cc Md (k:Int)=Xg\/1<=k/\Cc Md (k:Int)=⟨(k:Int)+1,true,[]⟩:=by
 have:k=0\/k=1\/k=2\/k=3\/k=4\/k=5:=Ck;rcases this with rfl|rfl|rfl|rfl|rfl|rfl
 ·exact .inl ⟨rfl,rfl⟩
 all_goals exact .inr ⟨Ck,rfl⟩
section
variable {E:Cs}
def Zz:Jx E Md (fun _=>(0,0)):=by
 have g:E.T.length=7+E.cs.length:=Ie E.cs;refine⟨Bru 6,fun k h i=>?_,rfl,fun k j c=>?_,fun k c e=>?_,fun k c e=>?_,fun k c v f=>?_⟩
 ·rw[Bgn (show k<Md.length from (by show k<6;omega))];rcases Bd1 (show k<6 by omega) with ⟨a,_⟩|⟨_,b⟩
  ·omega
  rw[b]
 all_goals rcases Bd1 c with ⟨a,b⟩|⟨a,b⟩
 all_goals have l:k<6:=c
 ·omega
 ·rw[b];show 0<=(k:Int)+1/\(k:Int)+1<_;omega
 ·rw[b]at e;cases e
 ·rw[b];show Cm _ [] (Rf.all E.T (Rf.given++E.cs) ((k:Int)+1).toNat);unfold Rf.all;rw[Bbv _ _ _ Ck];exact .nil
 ·rw[b];rfl
 ·rw[b]at e;cases e
 ·rw[b]at f;cases f
 rw[b]at f;cases f
def Bgr(c:E.Ok){k:Nat}(b:k<E.ms.length)(e:(E.meth k).cl=255)(f:(E.meth k).params=[]):Gh E (V0 E k) (Gb (k:Int)):=by
 have g:Iy (E.meth k).cl (E.meth k).params=[]:=by unfold Iy;rw[Th e,f];rfl
 obtain⟨h,j,l⟩:=Bd3 (ω:=fun _=>(0,0)) (ρ:=id) c (Zz (E:=E)).Cl b (i:=0) 0 (ar:=id) (a:=[]) (by rw[g];exact .nil);obtain⟨m,p⟩:=Bfu E k [] h (c.k.mt _ (Cs.mem b)).rd.lo.2;refine .on _ (Hg E k []) [] ⟨rfl,⟨rfl,rfl⟩,Zz,rfl,fun z q=>?_,⟨b,j,l,.nil _⟩⟩ ⟨rfl,rfl,m,.nil,rfl,rfl,rfl⟩ p;obtain rfl:=List.mem_singleton.1 q;refine⟨fun v s=>?_,by simp[Hg]⟩;rw[(List.mem_replicate.1 (show v∈List.replicate _ _ from s)).2];exact .inl rfl
def Cs.Ok.small(c:E.Ok)(f:E.heap<=30)(g:E.depth<=12):E.M.Small:=by
 have i:∀n,E.M.meth n=Ef\/E.M.meth n∈E.ms:=fun n=>by
  by_cases h:0<=n/\n.toNat<E.ms.length
  ·right
   have:=U8 (E:=E) h.2;rw[Bsr h.1]at this;rw[this];exact Cs.mem h.2
  left
  have e:E.M.ms=E.ms:=rfl;unfold Dn.meth;rw[e]
  split
  ·rfl
  rw[Th Ck]
 refine⟨fun n x b=>?_,fun n=>?_,fun n x b=>?_,f,g⟩
 all_goals rcases i n with e|e
 ·rw[e]at b;cases b
 ·exact⟨(c.k.mt _ e).bd.code0 x b,(c.k.mt _ e).rd.c255 x b⟩
 ·rw[e];simp[Ef]
 ·have:=(c.k.mt _ e).bd.code;omega
 ·rw[e]at b;cases b
 have j:=Mr (Bdx ((c.k.mt _ e).hnd x b)).1;have:=(c.k.mt _ e).bd.code;omega
def Bjp(i:E.Ok)(j:E.heap<=30)(l:E.depth<=12)(f:Nat)(m:f<=3000){k:Nat}(p:k<E.ms.length)(q:(E.meth k).cl=255)(s:(E.meth k).params=[]):∃e,Fx E f (V0 E k) e/\Ts (Oc E.M f (k:Int))=⟨e.out,e.status,e.value,(e.steps:Int),0⟩:=by
 obtain⟨e,h,a,b,c,g⟩:=Bcs i (i.small j l) f m (f+2) (Bgr i p q s) (Bcq _ _) (Bru _) (Bsb _) (Bru _);refine⟨e,h,?_⟩;unfold Ts Oc;rw[a,b,c,g]
end
end Go.Proofs.YtpcgnjolfahacaaGreat
