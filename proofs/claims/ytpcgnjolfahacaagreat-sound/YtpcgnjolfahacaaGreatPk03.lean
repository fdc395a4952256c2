/- the proof's parts -/
import Derived.Test.YtpcgnjolfahacaaGreatPk02
set_option maxRecDepth 100000
set_option maxHeartbeats 40000000
set_option linter.unusedVariables false
set_option linter.unusedSimpArgs false
set_option linter.defProp false
namespace Go.Proofs.YtpcgnjolfahacaaGreat
open Go.RowKit Go.Proofs.Tryz
variable{x:Be}{c:Int}{L:List Cd.Ins}{j q s u:Nat}{b:PBd}{z:TI}{w:TW}
def Yj (c:TI)(q:Int):Prop:=Cd.begB c q=true/\c.getD q.toNat 0=15
def J1 (T:TI)(m:Rd.Mth)(x:Be):Prop:=J6 T m.locals.toNat m.stack (Yj m.code) x
def Cq (cs:List Rd.Cls):List Rf.Fld:=Rf.fieldsTo (Tr.tree cs) (Rf.given++cs) cs.length
def Fj (m:Rd.Mth)(q:Int):Option Be:=Ka q m.maps
def Fk (m:Rd.Mth):Be:=Pp m.cl m.params m.locals.toNat
def Fn (cs:List Rd.Cls)(ms:List Rd.Mth)(m:Rd.Mth)(p:Nat)(x:Be):Option Be :=
 Gt m.stack (Ik (Tr.tree cs) (Cq cs) ms (fun c=>Rf.all (Tr.tree cs) (Rf.given++cs) c.toNat) (fun q=>Cd.atI m.code (q+1)) m.result (p:Int) (m.code.getD p 0) (Cd.atI m.code ((p:Int)+1)) x)
def Tz (cs:List Rd.Cls)(ms:List Rd.Mth)(m:Rd.Mth)(p:Nat)(x:Be):Int :=
 Nq (Tr.tree cs) (Fj m) (Kk (Tr.tree cs) (Fj m) (p:Int) x.locals m.handlers) (Fn cs ms m p x) (m.code.getD p 0) (Cd.atI m.code ((p:Int)+1)) ((p+Cd.wd (m.code.getD p 0):Nat):Int) (m.code.length:Int)
def Jh (cs:List Rd.Cls)(ms:List Rd.Mth)(m:Rd.Mth)(q:Nat):Option Be :=
 Ry (fun p=>Fj m (p:Int)) (Fn cs ms m) (fun p=>Dz (m.code.getD p 0)) q (Cd.places m.code) (some (Fk m))
def Kj (cs:List Rd.Cls)(ms:List Rd.Mth)(m:Rd.Mth):Int × Int :=
 Vi (Tr.tree cs) (Fj m 0) (Fk m) (Jh cs ms m) (Tz cs ms m) (Cd.places m.code)
def Oj (cs:List Rd.Cls):List (List (Int × Int)):=(Rf.given++cs).map Rd.Cls.fields
def Dt (cs:List Rd.Cls)(ms:List Rd.Mth)(m:Rd.Mth)(i:Cd.Ins)(x:Be):Option Be :=
 Nv (Tr.tree cs) m.stack (Ij (Oj cs) ms m.result i.op i.n) (Hj (Oj cs) ms i.op i.n) (Dq (Tr.tree cs) (Oj cs) i.n) (Ld (Cd.readL m.code) i.n) i.place i.op i.n x
def Rt (cs:List Rd.Cls)(ms:List Rd.Mth)(m:Rd.Mth)(i:Cd.Ins)(x:Be):Int :=
 Tn (Tr.tree cs) (Fj m) (Hg (Tr.tree cs) (Fj m) i.place x.locals m.handlers) (Dt cs ms m i x) i.op i.n ((i.place.toNat+Cd.wd i.op:Nat):Int) (m.code.length:Int)
def Ma (cs:List Rd.Cls)(ms:List Rd.Mth)(m:Rd.Mth):Int × Int :=
 Tp (Tr.tree cs) (Fj m) (Rt cs ms m) (Dt cs ms m) (Cd.readL m.code) (Fk m)
def Nb{F:Rd.Mth}(h:J1 z F x):Ey z x:=⟨fun t b=>(h.tl t b).1,fun t b=>(h.ts t b).1⟩
def Bnm{l:List Rd.Mp}{U:Be}(h:Ka c l=some U):∃y∈l,U=⟨y.locals,y.stack⟩:=by
 induction l with
 | nil=>simp[Ka]at h
 | cons y r ih =>
  rw[Ka]at h
  split at h
  ·exact⟨y,Fr,(Option.some.inj h).symm⟩
  obtain⟨b,f,e⟩:=ih h;exact⟨b,by simp[f],e⟩
def Boc{c:TI}(i:c.length<=120){C:Int×Int}(h:Cd.framed z c C.1 C.2=true):Dj z (Yj c) C:=by
 unfold Cd.framed at h;by_cases b:C.1=0\/C.1=1\/C.1=2
 ·rw[Sp b]at h;have:C.2=0:=by simpa using h
  refine⟨?_,fun g=>Bd⟩;rcases b with b|b | b
  ·exact .inl ⟨b,this⟩
  ·exact .inr (.inl ⟨b,this⟩)
  exact .inr (.inr (.inl ⟨b,this⟩))
 rw[Pf b]at h;by_cases e:C.1=3;·rw[Sp e]at h;exact⟨by rw[e];exact Xr (Lr.1 h),fun g=>Bd⟩
 rw[Pf e]at h;by_cases f:C.1=4;·rw[Sp f]at h;simp only[Bwk,By9]at h;have:=Pu h.1;exact⟨.inr (.inr (.inr (.inr ⟨f,Bd,Bd⟩))),fun _=>h⟩
 rw[Pf f]at h;simp at h
def Bhd{c:TI}(b:c.length<=120){q:TP}(h:Cd.frAll z c q=true):∀t∈q,Dj z (Yj c) t:=fun t e=>Boc b (List.all_eq_true.1 h t e)
def Vc{m:List Rd.Mth}{F:Rd.Mth}(g:Ra z c m F){B:Int}{U:Be}(h:Fj F B=some U):J1 z F U:=by
 obtain⟨y,f,rfl⟩:=Bnm h;obtain⟨a,b,_⟩:=g.map y f;obtain⟨e,d⟩:=g.rd.ml y f;exact⟨e,d,Bhd g.bd.code a,Bhd g.bd.code b⟩
def Vj{m:List Rd.Mth}{F:Rd.Mth}(g:Ra z c m F):J1 z F (Fk F):=by
 have i:=g.own;have j:=g.rd.lo;have e:=g.rd.st;refine⟨?_,by simpa[Fk,Pp] using e.1,?_,by simp[Fk,Pp]⟩
 ·simp only[Fk,Pp,Up,B0q];omega
 intro t b;simp only[Fk,Pp]at b;rcases List.mem_append.1 b with b|b
 ·unfold Kv at b;rcases List.mem_append.1 b with b|b
  ·split at b
   ·simp at b
   rename_i f;obtain rfl:=List.mem_singleton.1 b;exact⟨Xr (Lr.1 (g.cl.resolve_left f)),fun h=>by simp at h⟩
  exact Bbe (Pi g.ps t b)
 rw[(List.mem_replicate.1 b).2];exact Ba9 _ _
structure Yg(T:List Int)(nf:Int)(ms:List Rd.Mth)(m:Rd.Mth)(op n:Int):Prop where
 loc:op=2\/op=3->0<=n/\n<m.locals
 cls:op=15\/op=16\/op=19->0<=n/\n<(T.length:Int)
 fld:op=17\/op=18->0<=n/\n<nf
 mth:op=20\/op=21->0<=n/\n<(ms.length:Int)
 own:op=21->(ms.getD n.toNat ⟨0,0,[],(0,0),0,0,[],[],[]⟩).cl≠255
def X2{m:List Rd.Mth}{F:Rd.Mth}(g:Ra z c m F)(i:u∈Cd.places F.code):Yg z c m F (F.code.getD u 0) (Cd.atI F.code ((u:Int)+1)):=by
 have b:=g.arg u i;obtain⟨s,j⟩:=N2 g.unread u i;unfold Cd.argAt at b;rw[Baa]at b;have l:Cd.wd (F.code.getD u 0)=2->0<=Cd.atI F.code ((u:Int)+1):=fun q=>by
  rw[(W3 j q).2];exact Yy g.bd.code0 _
 generalize Cd.atI F.code ((u:Int)+1)=n at *;generalize F.code.getD u 0=op at *;have f:op=2\/op=3\/(11<=op/\op<=21)->0<=n:=fun h=>l (by unfold Cd.wd;rw[Sp Bd]);unfold Cd.argB at b;refine⟨fun h=>?_,fun h=>?_,fun h=>?_,fun h=>?_,fun h=>?_⟩
 ·rw[Sp h]at b;exact⟨f Bd,by simpa using b⟩
 ·rw[Pf Bd,Pf Bd,Sp h]at b;exact Lr.1 b
 ·rw[Pf Bd,Pf Bd,Pf Bd,Sp h]at b;exact⟨f Bd,by simpa using b⟩
 ·refine⟨f Bd,?_⟩;rw[Pf Bd,Pf Bd,Pf Bd,Pf Bd]at b;rcases h with h|h
  ·rw[Sp h]at b;simp at b;exact_mod_cast b.1
  rw[Pf Bd,Sp h]at b;simp at b;exact_mod_cast b.1
 have t:=f Bd;rw[Pf Bd,Pf Bd,Pf Bd,Pf Bd,Pf Bd,Sp h]at b;simp only[Bwk,Bwp,bne_iff_ne,ne_eq,Bvr]at b;have e:(List.map Rd.Mth.cl m).getD n.toNat 0=(m.getD n.toNat ⟨0,0,[],(0,0),0,0,[],[],[]⟩).cl:=by
  simp only[Th,Bv8];have:n.toNat<m.length:=Bd;rw[Ws this];rfl
 rw[e]at b;exact b.2
def V9(b:List Rd.Cls):((Cq b).length:Int)=(Cd.fieldSum b:Int):=by
 have:=Cd.fields_eq (Tr.tree b) b b.length (Wf _);rw[Byk]at this;unfold Cq;rw[this]
def Al{b:List Rd.Cls}{m:List Rd.Mth}(k:Jj b m){n:Int}(h:0<=n/\n<(Cd.fieldSum b:Int)):(0<=((Cq b).getD n.toNat ⟨0,0,(0,0)⟩).owner/\((Cq b).getD n.toNat ⟨0,0,(0,0)⟩).owner<((Tr.tree b).length:Int))/\Tr.plainB (Tr.tree b) ((Cq b).getD n.toNat ⟨0,0,(0,0)⟩).t.1 ((Cq b).getD n.toNat ⟨0,0,(0,0)⟩).t.2=true:=by
 have c:=V9 b;have:=Bcm k.fl b.length _ (show (Cq b).getD n.toNat ⟨0,0,(0,0)⟩∈Cq b from Hu Bd);have e:=Ix b;exact⟨Bd,this.2⟩
def Uo{n:Int}(h:0<=n/\n<(z.length:Int)):Tr.plainB z 3 n=true:=by
 unfold Tr.plainB;rw[Pf Bd,Sp rfl];exact Lr.2 h
def Xe{t:List Rd.Cls}{m:List Rd.Mth}(k:Jj t m){F:Rd.Mth}{op n:Int}(i:F∈m)(h:Yg (Tr.tree t) (Cd.fieldSum t:Int) m F op n):∀b∈Cu (Cq t) m F.result op n,Tr.plainB (Tr.tree t) b.1 b.2=true:=by
 have q:=Ix t;have g:=k.mt F i;unfold Cu;intro b c
 split at c
 ·simp at c;rw[c];rfl
 split at c
 ·simp at c;rw[c];rfl
 split at c
 ·simp at c;rw[c];exact Uo ⟨Fr,Fm⟩
 split at c
 ·rename_i j;obtain rfl:=List.mem_singleton.1 c;exact Uo (Al k (h.fld (.inl j))).1
 split at c
 ·rename_i l;have:=Al k (h.fld (.inr l));simp only[Bxy,Bx9,Bz2]at c;rcases c with rfl|rfl
  ·exact Uo this.1
  exact this.2
 split at c
 ·rename_i p;have:=h.mth (.inl p);exact Pi (k.mt _ (Hu (show n.toNat<m.length by omega))).ps b c
 split at c
 ·rename_i e;have s:=h.mth (.inr e);have f:=k.mt _ (Hu (d:=⟨0,0,[],(0,0),0,0,[],[],[]⟩) (show n.toNat<m.length by omega));rcases List.mem_cons.1 c with rfl|c
  ·exact Uo (Lr.1 (f.cl.resolve_left (h.own e)))
  exact Pi f.ps b c
 split at c
 ·exact Beq g.res b c
 split at c
 ·obtain rfl:=List.mem_singleton.1 c;exact Uo ⟨Fr,Fm⟩
 simp at c
def Bdv{t:List Rd.Cls}{m:List Rd.Mth}(k:Jj t m){F:Rd.Mth}{op n:Int}(c:F∈m)(h:Yg (Tr.tree t) (Cd.fieldSum t:Int) m F op n):∀b∈Cu (Cq t) m F.result op n,Tr.Arg (Tr.tree t) b.1 b.2:=fun b e=>(Ht (Xe k c h b e)).1
def Bnv{t:List Rd.Cls}{m:List Rd.Mth}(k:Jj t m){F:Rd.Mth}{op n:Int}{e:Int->Prop}(h:Yg (Tr.tree t) (Cd.fieldSum t:Int) m F op n):∀b∈Fg (Cq t) m op n,Dj (Tr.tree t) e b:=by
 unfold Fg;intro b c
 split at c
 ·simp at c;rw[c];exact⟨.inr (.inl ⟨rfl,rfl⟩),fun h=>by simp at h⟩
 split at c
 ·simp at c;rw[c];exact⟨.inr (.inr (.inl ⟨rfl,rfl⟩)),fun h=>by simp at h⟩
 split at c
 ·rename_i f;obtain rfl:=List.mem_singleton.1 c;exact Bbe (Al k (h.fld (.inl f))).2
 split at c
 ·rename_i g;obtain rfl:=List.mem_singleton.1 c;exact⟨Xr (h.cls (.inr (.inr g))),fun h=>by simp at h⟩
 split at c
 ·rename_i i;have:=h.mth i;exact Bbe (Beq (k.mt _ (Hu (show n.toNat<m.length by omega))).res b c)
 simp at c
def Vy(h:Cd.unread z<0):Cd.readL z=Cd.insts z:=by
 unfold Cd.readL;rw[Pf Bd]
def Bbp(h:Cd.begB z c=true):c.toNat∈Cd.places z:=by
 unfold Cd.begB at h;rw[By6]at h;obtain⟨p,b,e⟩:=h;have:(p:Int)=c:=by simpa using e
 rw[<- this,Bvn];exact b
def Bnz{c:TI}(b:Cd.unread c<0){q:Int}(h:Yj c q)(n:Int):Ld (Cd.readL c) n q=true<->Cd.atI c (q+1)=n:=by
 rw[Vy b];have s:=Pu h.1;have f:(Cd.findAt q (Cd.insts c)).isSome=true:=by rw[Cd.find_beg];exact h.1
 have i:=(Cd.find_at c q (Cd.places c) f).1;have g:=N2 b _ (Bbp h.1);rw[h.2]at g;have j:Cd.wd (c.getD q.toNat 0)=2:=by rw[h.2];rfl
 have l:=W3 (c:=c) (p:=q.toNat) (by rw[h.2];exact g.2) j;unfold Ld;rw[f];unfold Cd.insts;rw[i,l.1];have e:(Cd.insAt c q.toNat).op=15:=h.2;have m:((q.toNat:Nat):Int)=q:=Bd;rw[e,m];simp
def Un{t:List Rd.Cls}{m:List Rd.Mth}(k:Jj t m){F:Rd.Mth}(f:F∈m)(c:u∈Cd.places F.code){y:Be}(i:J1 (Tr.tree t) F x)(h:Fn t m F u x=some y):J1 (Tr.tree t) F y:=by
 have g:=k.mt F f;have b:=X2 g c;unfold Fn at h;rw[Bc8]at h;refine Bpq _ _ _ _ _ _ _ _ _ i (Bnv k b) (fun j=>?_) (fun l=>?_) (fun q=>b.cls Bd) h
 ·have:=b.loc (.inl j);have:=g.rd.lo;omega
 have e:Cd.begB F.code (u:Int)=true:=by
  unfold Cd.begB;rw[By6];exact⟨u,c,Fr⟩
 have:=Pu e;have:=g.bd.code;exact⟨.inr (.inr (.inr (.inr ⟨rfl,Fr,Fm⟩))),fun _=>⟨e,by simpa using l⟩⟩
def Ug{t:List Rd.Cls}{m:List Rd.Mth}(k:Jj t m){F:Rd.Mth}(s:F∈m)(v:u∈Cd.places F.code)(j:J1 (Tr.tree t) F x):Dt t m F (Cd.insAt F.code u) x=Fn t m F u x:=by
 have g:=k.mt F s;have Y:=Ix t;have Z:=V9 t;obtain⟨a0,z⟩:=N2 g.unread u v;have A:=X2 g v;have B:(Cd.insAt F.code u).op=F.code.getD u 0:=rfl;have C:(Cd.insAt F.code u).place=(u:Int):=rfl
 -- the number as the program has it
 have D:Fn t m F u x=Gt F.stack (Ik (Tr.tree t) (Cq t) m (fun c=>Rf.all (Tr.tree t) (Rf.given++t) c.toNat) (fun q=>Cd.atI F.code (q+1)) F.result (u:Int) (F.code.getD u 0) (Cd.insAt F.code u).n x):=by
  unfold Fn;have I:=Cd.wd_bd (F.code.getD u 0);by_cases e:Cd.wd (F.code.getD u 0)=2;·rw[(W3 z e).1]
  rw[Bsh (show Cd.wd (F.code.getD u 0)=1 by omega)]
 have f:Yg (Tr.tree t) (Cd.fieldSum t:Int) m F (F.code.getD u 0) (Cd.insAt F.code u).n:=by
  have I:=Cd.wd_bd (F.code.getD u 0);by_cases e:Cd.wd (F.code.getD u 0)=2;·rw[(W3 z e).1];exact A
  have h':¬(F.code.getD u 0=0\/F.code.getD u 0=2\/F.code.getD u 0=3\/(11<=F.code.getD u 0/\F.code.getD u 0<=21)):=by
   intro J;unfold Cd.wd at e;rw[Sp J]at e;exact e rfl
  exact⟨fun h=>Bd,fun h=>Bd,fun h=>Bd,fun h=>Bd,fun h=>Bd⟩
 have K:0<=(Cd.insAt F.code u).n:=by
  unfold Cd.insAt;simp only
  split
  ·exact Yy g.bd.code0 _
  omega
 obtain⟨n,l⟩:∃n:Nat,(Cd.insAt F.code u).n=(n:Int):=⟨(Cd.insAt F.code u).n.toNat,Bd⟩;rw[D];unfold Dt;rw[B,C,l];rw[l]at f;clear D A B C l K;generalize a1:F.code.getD u 0=op at *;have G:7<=(Rf.given++t).length:=by simp[Sf]
 have L:(Rf.given++t).length-7=t.length:=by simp[Sf]
 have a2:(Rf.given++t).length=7+t.length:=by simp[Sf]
 have hF:Cq t=Rf.fieldsTo (Tr.tree t) (Rf.given++t) ((Rf.given++t).length-7):=by rw[L];rfl
 have N:Ij (Oj t) m F.result op (n:Int)=Cu (Cq t) m F.result op (n:Int):=by
  rw[hF];refine Bpk _ _ G (Pd t) _ _ _ _ (fun h=>?_);have:=f.fld h;rw[<- hF];omega
 have O:Hj (Oj t) m op (n:Int)=Fg (Cq t) m op (n:Int):=by
  rw[hF];refine Bnw _ _ G (Pd t) _ _ _ (fun h=>?_);have:=f.fld (.inl h);rw[<- hF];omega
 rw[Bc8,N,O,<- Bos k.ok (isNew:=Ld (Cd.readL F.code) (n:Int)) (want:=Rf.all (Tr.tree t) (Rf.given++t) (n:Int).toNat)]
 ·-- only Init wants the fields
  by_cases Q:op=16;·have:=f.cls Bd;rw[show Oj t=(Rf.given++t).map Rd.Cls.fields from rfl,Xm k.ok (Rf.given++t) Bd Bd,Bvn]
  unfold Nv Zd;simp only[Pf Q]
 ·exact fun b i=>(j.ts b i).1
 ·exact Bdv k s f
 ·exact fun b i=>(Ht (W9 k.fl _ _ b i)).1
 ·exact Bk2 _ _ _ _
 ·exact j.hi
 ·intro h;have:=f.loc h;have:=j.lo;have:=g.rd.lo;omega
 intro _ b i V;exact Bnz g.unread ((j.ts b i).2 V) _
def Beg{mp:Int->Option Be}{H:Int}{R:Option Be}{op n e:Int}(h:Nq z mp H R op n c e=0):∃y,R=some y:=by
 unfold Nq at h;by_cases b:H≠0;·rw[Sp b]at h;exact absurd h b
 rw[Pf b]at h;cases R with
 | none=>simp at h
 | some y=>exact⟨y,rfl⟩
def Bsx{m:List Rd.Mth}{F:Rd.Mth}(g:Ra z c m F):∀h∈F.handlers,Tr.Arg z 3 h.cl:=by
 intro h b;have:=g.hnd h b;unfold Cd.hndBad at this;simp only[Bxo,Bool.not_eq_false']at this;exact Xr (Lr.1 this.1.2)
def Beh{t:List Rd.Cls}{m:List Rd.Mth}(k:Jj t m){F:Rd.Mth}(c:F∈m)(e:u∈Cd.places F.code)(f:J1 (Tr.tree t) F x):Rt t m F (Cd.insAt F.code u) x=Tz t m F u x:=by
 have g:=k.mt F c;obtain⟨C,j⟩:=N2 g.unread u e;have i:∀q z,Fj F q=some z->Ey (Tr.tree t) z:=fun q z h=>Nb (Vc g h);unfold Rt Tz;have l:(Cd.insAt F.code u).op=F.code.getD u 0:=rfl;have s:(Cd.insAt F.code u).place=(u:Int):=rfl;rw[Ug k c e f,l,s,Bvn,Bay k.ok _ i _ _ (fun b v=>(f.tl b v).1) _ (Bsx g),
  Bsr k.ok _ i _ _ (fun y A=>Nb (Un k c e f A))]
 have D:=Cd.wd_bd (F.code.getD u 0);by_cases B:Cd.wd (F.code.getD u 0)=2;·rw[(W3 j B).1]
 exact Bui Bd _ _
def Boh{t:List Rd.Cls}{m:List Rd.Mth}(k:Jj t m){F:Rd.Mth}(b:F∈m):Ma t m F=Kj t m F:=by
 have g:=k.mt F b;unfold Ma Kj Jh;rw[Vy g.unread];refine Bhi k.ok (Fj F) (Fn t m F) (Tz t m F) F.code (Rt t m F) (Dt t m F) (J1 (Tr.tree t) F) (fun x h=>Nb h) (fun q z h=>Vc g h) (Fk F) (Vj g) ?_;intro p c x e;refine⟨Beh k b c e,fun i=>?_⟩;obtain⟨y,f⟩:=Beg i;exact⟨y,f,by rw[Ug k b c e,f],Un k b c e f⟩
def Gq (s:TB):Int × Int × Int:=Wv (Rf.formed s) (Kl (Kj (Rd.read s).1.classes (Rd.read s).1.methods) 0 (Rd.read s).1.methods)
def Kg (lcs:List (Rd.Cls × Value)):List (Value × List (Int × Int)):=List.replicate 7 (.slice none 0 0,[])++lcs.map fun p=>(p.2,p.1.fields)
def Bhf(b:List (Rd.Cls×Value)):(Kg b).map Prod.fst=Tr.fvals b:=by
 unfold Kg Tr.fvals;rw[Bvx,List.map_replicate,Bz6];rfl
def Boe(b:List (Rd.Cls×Value)):(Kg b).map Prod.snd=Oj (b.map Prod.fst):=by
 unfold Kg Oj;rw[Bvx,List.map_replicate,Bz6,Bvx,Bz6];rfl
def Wb(b:List (Rd.Cls×Value)):(Kg b).length=7+b.length:=by unfold Kg;simp;omega
def Bs1(h:∀x∈z,x<=255)(i:Nat):z.getD i 0<=255:=by
 by_cases b:i<z.length;·exact h _ (Hu b)
 rw[Th,Bwz Bd];simp
structure Uj(cs:List Rd.Cls)(ms:List Rd.Mth)(lcs:List (Rd.Cls × Value))(lms:List (Rd.Mth × Eh))(b:PBd)(m:Rd.Mth)(bm:Nat)(w:World):Prop where
 k:Jj cs ms
 ec:lcs.map Prod.fst=cs
 em:lms.map Prod.fst=ms
 mem:m∈ms
 T:b.T=Tr.tree cs
 L:b.L=Cd.readL m.code
 ru:Ru b w 0 lms (Kg lcs)
 is:(⟨b.cl,b.nm,b.pa,b.pl,b.pc,b.r1,b.r2,b.lo,b.st,b.ca,b.cn,b.cc,b.ha,b.hl,b.hc,b.ma,b.ml,b.mc⟩:PM).is m w bm
def Uj.below{t:List Rd.Cls}{m:List Rd.Mth}{J:List (Rd.Cls×Value)}{e:List (Rd.Mth×Eh)}{c:PBd}{F:Rd.Mth}{b:TW}(h:Uj t m J e c F u w)(f:Bl w b):Uj t m J e c F u b :=
 ⟨h.k,h.ec,h.em,h.mem,h.T,h.L,h.ru.below f,h.is.below f⟩
def Xg{t:List Rd.Cls}{m:List Rd.Mth}{J:List (Rd.Cls×Value)}{L:List (Rd.Mth×Eh)}{F:Rd.Mth}(h:Uj t m J L b F u w):Ri b (Fj F) w:=by
 intro q i j;have f:=h.below j;have g:=h.k.mt F h.mem;obtain⟨c,e,l⟩:=f.is.mp;have v:c.length=F.maps.length:=by rw[<- e];simp
 have z:=g.bd.mp;have p:∀q∈c,q.1.locals.length<=5000/\q.1.stack.length<=5000:=fun q s=>by
  have:q.1∈F.maps:=by rw[<- e];exact List.mem_map.2 ⟨q,s,rfl⟩
  have:=g.bd.fr _ this;omega
 have:=Bkk b c u q i (by have:=f.is.ml;simp only at this;omega) Bd p l;rw[e]at this;exact this
def Bh4{t:List Rd.Cls}{m:List Rd.Mth}{J:List (Rd.Cls×Value)}{L:List (Rd.Mth×Eh)}{F:Rd.Mth}(h:Uj t m J L b F u w):Calls prog 110 #[.agg #[.i b.cl,.i b.nm,.s b.pa b.pl b.pc,.i b.r1,.i b.r2,.i b.lo,.i b.st,.s b.ca b.cn b.cc,.s b.ha b.hl b.hc,.s b.ma b.ml b.mc]] w fun e j=>∃c:FrV,e=.returned c.val/\c.is (Fk F) j/\Bl w j:=by
 have g:=h.k.mt F h.mem;have p:=g.rd.lo;have l:=h.is.lo;have f:=h.is.cl;simp only at l f;have:=Bb5 ⟨b.cl,b.nm,b.pa,b.pl,b.pc,b.r1,b.r2,b.lo,b.st,b.ca,b.cn,b.cc,b.ha,b.hl,b.hc,b.ma,b.ml,b.mc⟩ F.params F.locals.toNat w Ls Bd (TyR.of_tys h.is.ps) (by have:=g.bd.ps;omega);simp only[PM.val,f]at this;unfold Fk;rw[f];exact this
def Zz{t:List Rd.Cls}{m:List Rd.Mth}{J:List (Rd.Cls×Value)}{f:List (Rd.Mth×Eh)}{F:Rd.Mth}(h:Uj t m J f b F u w)(p:Nat)(v:FrV)(x:Be)(j:p∈Cd.places F.code)(C:v.is x w)(l:J1 (Tr.tree t) F x):Calls prog 221 #[b.val,.agg #[.i (p:Int),.i (Cd.insAt F.code p).op,.i (Cd.insAt F.code p).n],v.val] w fun e s=>∃c:FrV,e=.r (.tuple #[c.val,.bool (Dt t m F (Cd.insAt F.code p) x).isSome])/\(∀y,Dt t m F (Cd.insAt F.code p) x=some y->c.is y s)/\Bl w s:=by
 have g:=h.k.mt F h.mem;obtain⟨Z,D⟩:=N2 g.unread p j;have G:=X2 g j;have a0:=g.rd.lo;have a1:=g.rd.st;have a2:0<=(Cd.insAt F.code p).n:=by
  unfold Cd.insAt;simp only
  split
  ·exact Yy g.bd.code0 _
  omega
 have I:(Cd.insAt F.code p).op=20\/(Cd.insAt F.code p).op=21->(Cd.insAt F.code p).n.toNat<f.length:=by
  intro K;have N:F.code.getD p 0=20\/F.code.getD p 0=21:=K;have O:Cd.wd (F.code.getD p 0)=2:=by unfold Cd.wd;rw[Sp Bd]
  have:=G.mth N;rw[(W3 D O).1];have:m.length=f.length:=by rw[<- h.em];simp
  omega
 have Q:(Cd.insAt F.code p).n.toNat<=100000:=by
  have:(Cd.insAt F.code p).n<=255:=by
   unfold Cd.insAt;simp only
   split
   ·exact Bs1 g.rd.c255 _
   omega
  omega
 have V:∀q∈f,q.1.params.length<=1000:=fun q Y=>by
  have:q.1∈m:=by rw[<- h.em];exact List.mem_map.2 ⟨q,Y,rfl⟩
  have:=(h.k.mt _ this).bd.ps;omega
 have:=Bh7 b 0 f (Kg J) (p:Int) (Cd.insAt F.code p).op (Cd.insAt F.code p).n.toNat v x w h.ru C Q (by rw[l.lo];omega) (by have:=l.hi;omega) V I;have z:=h.is.st;have A:=h.is.r1;have B:=h.is.r2;simp only at z A B;rw[show (((Cd.insAt F.code p).n.toNat:Nat):Int)=(Cd.insAt F.code p).n by omega,Boe,h.em,h.ec,h.T,h.L,z,show (b.r1,b.r2)=F.result by rw[A,B]]at this;exact this
def Bkl{t:List Rd.Cls}{m:List Rd.Mth}{J:List (Rd.Cls×Value)}{L:List (Rd.Mth×Eh)}{F:Rd.Mth}(h:Uj t m J L b F u w)(p:Nat)(v:FrV)(x:Be)(j:p∈Cd.places F.code)(s:v.is x w)(l:J1 (Tr.tree t) F x):Calls prog 186 #[b.pval,.agg #[.i (p:Int),.i (Cd.insAt F.code p).op,.i (Cd.insAt F.code p).n],v.val] w fun e z=>∃c:FrV,e=.r (.tuple #[c.val,.i (Rt t m F (Cd.insAt F.code p) x)])/\(Rt t m F (Cd.insAt F.code p) x=0->∃y,Dt t m F (Cd.insAt F.code p) x=some y/\c.is y z/\J1 (Tr.tree t) F y)/\Bl w z:=by
 have g:=h.k.mt F h.mem;have Q:p<F.code.length:=Bdx j;have V:=g.bd.code;have Y:=g.bd.hs;have A:=h.is.cn;have B:=h.is.hl;simp only at A B;have I:=fun q (f:Bl w q)=>Bkm b (Fj F) F.handlers u (p:Int) v x q h.ru.tl (h.ru.below f).tr (Xg (h.below f)) B Bd (h.is.below f).hs (s.below f);have:=Bmz b (Fj F) p (Cd.insAt F.code p).op (Cd.insAt F.code p).n (Hg b.T (Fj F) (p:Int) x.locals F.handlers) (Dt t m F (Cd.insAt F.code p) x) v w h.ru.tl h.ru.tr (Xg h) Bd I (fun q f=>Zz (h.below f) p v x j (s.below f) l);rw[h.T,A]at this;refine this.mono ?_;rintro e q ⟨c,rfl,K,N⟩;refine⟨c,rfl,fun C=>?_,N⟩;have O:=Beh h.k h.mem j l;obtain⟨y,D⟩:=Beg (show Tz t m F p x=0 by rw[<- O];exact C);have G:Dt t m F (Cd.insAt F.code p) x=some y:=by rw[Ug h.k h.mem j l];exact D
 exact⟨y,G,K C y G,Un h.k h.mem j l D⟩
def Bko{t:List Rd.Cls}{m:List Rd.Mth}{J:List (Rd.Cls×Value)}{l:List (Rd.Mth×Eh)}{F:Rd.Mth}(h:Uj t m J l b F u w):Calls prog 129 #[b.pval] w fun e c=>e=.r (.agg #[.i (Ma t m F).1,.i 0,.i (Ma t m F).2])/\Bl w c:=by
 have g:=h.k.mt F h.mem;have:=Bm2 b (Fj F) (Rt t m F) (Dt t m F) (Fk F) (J1 (Tr.tree t) F) 0 w h.ru.tl h.ru.tr (Xg h) h.ru.ll h.ru.ins (fun c f=>Bh4 (h.below f))
  (fun i j v x c f s A=>by
   rw[h.L,Vy g.unread]at j;obtain⟨p,B,rfl⟩:=List.mem_map.1 j;exact Bkl (h.below f) p v x B s A) (Vj g) (fun q z C=>Vc g C)
 rw[h.T,h.L]at this;exact this
def Bb8{t:List Rd.Cls}{m:List Rd.Mth}(k:Jj t m){l D:TA}{F K G:Nat}{J:List (Rd.Cls×Value)}{v:List (Rd.Mth×Eh)}(A:J.map Prod.fst=t)(Q:Ex w G (.s l u F) J)(B:v.map Prod.fst=m)(I:Eb w G (.s D j K) v):Calls prog 80 #[.agg #[.s l u F,.s D j K]] w fun e V=>e=.r (.agg #[.i (Fs (Ma t m) 0 m).1,.i (Fs (Ma t m) 0 m).2.1,.i (Fs (Ma t m) 0 m).2.2])/\Bl w V:=by
 obtain⟨xa,xc,z⟩:=Bg I.1;simp only[Value.slice.injEq]at z;obtain⟨rfl,rfl,rfl⟩:=z;have a7:J.length=t.length:=by rw[<- A];simp
 have a8:v.length=m.length:=by rw[<- B];simp
 have a9:=k.l6;have b0:=k.m6;have b1:=Ix t;have C:∀p∈v,p.1∈m:=fun p h=>by rw[<- B];exact List.mem_map.2 ⟨p,h,rfl⟩
 have:=Bm4 l D u F K G J v (Ma t m) w Bd Q Bd I (fun p h=>⟨by have:=(k.mt _ (C p h)).bd.code;omega,(k.mt _ (C p h)).bd.code0⟩)
  (fun p h b bb V Y e1 e2 e3 e4 Z e6 N hL a3 a0 a4 a5=>by
   have g:=k.mt _ (C p h);rw[A]at N;obtain⟨ya,yc,z⟩:=Bg a0;simp only[Value.slice.injEq]at z;have a6:b.yn=(Kg J).length:=by rw[Wb];exact z.2.1
   have b2:b.L.length<=120:=by
    rw[hL,Vy g.unread];have:=Aj p.1.code;have:=g.bd.code;omega
   refine Bko ⟨k,A,B,C p h,N,hL,⟨Z,Bd,?_,a6,by rw[Wb];omega,?_,⟨?_,?_⟩,by rw[N];omega,a3,Bd,D8 a5 (Bv5 _)⟩,a4⟩
   ·rw[e4,Z,e6];exact(I.kp (Kp.of_below (e:=none) Y) Ck Ck Ck Ck Ck).mono (Bv5 _)
   ·intro q f;unfold Kg at f;rcases List.mem_append.1 f with f|f
    ·rw[(List.mem_replicate.1 f).2];simp
    obtain⟨c,O,rfl⟩:=List.mem_map.1 f;exact k.fn c.1 (by rw[<- A];exact List.mem_map.2 ⟨c,O,rfl⟩)
   ·rw[Bhf,Wb];exact D8 a0 (Bv5 _)
   intro q f;unfold Kg at f;rcases List.mem_append.1 f with f|f
   ·rw[(List.mem_replicate.1 f).2];exact TyR.nil _
   obtain⟨c,O,rfl⟩:=List.mem_map.1 f;exact TyR.of_tys ((Q.kp (Kp.of_below (e:=none) Y) Ck Ck).2 c O))
 rw[B]at this;exact this
def Ao(f:Rd.Mth->Int×Int):∀(l:List Rd.Mth) (k:Nat),(Kl f k l).1=0->Kl f k l=(0,0,0)
 | [],_,_=>rfl
 | m::r,k,h=>by
  rw[Kl]at h ⊢;by_cases b:(f m).1≠0;·rw[Sp b]at h;exact absurd h b
  rw[Pf b]at h ⊢;exact Ao f r _ h
def Bcp(s:TB):Mb (Ft s) (Fs (Ma (Rd.read s).1.classes (Rd.read s).1.methods) 0 (Rd.read s).1.methods)=Wv (Rf.formed s) (Kl (Kj (Rd.read s).1.classes (Rd.read s).1.methods) 0 (Rd.read s).1.methods):=by
 rw[M3];unfold Mb Wv;by_cases b:(Rf.formed s).1≠0;·rw[Sp b,Sp b]
 rw[Pf b,Pf b];obtain⟨k,_,_⟩:=Ke s (by simpa using b);rw[Bcl _ (Kj (Rd.read s).1.classes (Rd.read s).1.methods) _ _ (fun m c=>Boh k c)]
 split
 ·rfl
 rename_i e;exact(Ao _ _ _ (by simpa using e)).symm
def Be6(s:ByteArray)(w:TW)(f:s.size<=maxLen):Calls prog 20 #[.string s] w fun e b=>e=.r (.tuple #[.i (Gq s.data.toList).1,.i (Gq s.data.toList).2.1,.i (Gq s.data.toList).2.2])/\Bl w b:=by
 have h:=Bo4 s (Fs (Ma (Rd.read s.data.toList).1.classes (Rd.read s.data.toList).1.methods) 0 (Rd.read s.data.toList).1.methods) w f
  (fun c p q t v z A B C D b F g j l m=>by
   rw[M3]at c;obtain⟨k,_,_⟩:=Ke _ c;exact Bb8 k g j l m)
 rw[Bcp]at h;exact h
structure Od where
 fr:Be
 st:Bool
 ri:Bool
 wa:Bool
def Jz:Od:=⟨⟨[],[]⟩,false,false,false⟩
structure Bt where
 sp:List Od
 hop:Bool
def Bt.at(s:Bt)(q:Nat):Od:=s.sp.getD q Jz
def Bt.put(s:Bt)(q:Nat)(y:Be):Bt:=⟨s.sp.set q ⟨y,true,true,(s.at q).wa⟩,s.hop⟩
def Bt.stop(s:Bt):Bt:=⟨s.sp,true⟩
def Bt.want(s:Bt)(q:Nat):Bt:=⟨s.sp.set q ⟨(s.at q).fr,(s.at q).st,(s.at q).ri,true⟩,s.hop⟩
def Bt.calm(s:Bt)(q:Nat):Bt:=⟨s.sp.set q ⟨(s.at q).fr,(s.at q).st,false,(s.at q).wa⟩,s.hop⟩
def Lv (T:TI)(x y:Be):Be:=⟨List.zipWith (Tr.joinT T) x.locals y.locals,List.zipWith (Tr.joinT T) x.stack y.stack⟩
def D9 (T:TI)(hi:Int)(x:Be)(q:Int)(s:Bt):Bt :=
 if q<0\/(s.sp.length:Int)<=q\/hi<(x.stack.length:Int) then s.stop
 else if (s.at q.toNat).st=false then s.put q.toNat x
 else if Hx T x (s.at q.toNat).fr=true then s
 else if x.locals.length=(s.at q.toNat).fr.locals.length/\x.stack.length=(s.at q.toNat).fr.stack.length then s.put q.toNat (Lv T x (s.at q.toNat).fr)
 else s.stop
def Vt (q:Int)(s:Bt):Bt:=if 0<=q/\q<(s.sp.length:Int) then s.want q.toNat else s
def Ie (T:TI)(hi:Int)(x:Be)(q:Int)(s:Bt):Bt:=Vt q (D9 T hi x q s)
def Dy (T:TI)(hi:Int)(p:Int)(lo:TP):List Rd.Hnd->Bt->Bt
 | [],s=>s
 | h::r,s=>Dy T hi p lo r (if El h p=true then Ie T hi ⟨lo,[(3,h.cl)]⟩ h.target s else s)
def Mj (T:TI)(hi:Int)(hs:List Rd.Hnd)(bh:Cd.Ins->Be->Option Be)(i:Cd.Ins)(x:Be)(s:Bt):Bt :=
 match bh i x with
 | none=>(Dy T hi i.place x.locals hs s).stop
 | some y =>
  let s1:=Dy T hi i.place x.locals hs s
  let s2:=if Dx i.op=true then Ie T hi y i.n s1 else s1
  if Dz i.op=true then D9 T hi y (i.place+(Cd.wd i.op:Int)) s2 else s2
def Ct (lk:Cd.Ins->Be->Bt->Bt):List Cd.Ins->Bool->Bt->Bt × Bool
 | [],b,s=>(s,b)
 | i::r,b,s=>if (s.sp.length:Int)<=i.place\/(s.at i.place.toNat).ri=false then Ct lk r b s
  else Ct lk r true (lk i (s.at i.place.toNat).fr (s.calm i.place.toNat))
def Ku (lk:Cd.Ins->Be->Bt->Bt)(L:List Cd.Ins):Nat->Bt->Bt
 | 0,s=>s
 | n+1,s=>if (Ct lk L false s).2=true/\(Ct lk L false s).1.hop=false then Ku lk L n (Ct lk L false s).1 else (Ct lk L false s).1
def Fp:Nat->List Od->List Rd.Mp
 | _,[]=>[]
 | k,p::r=>if p.wa=true then ⟨(k:Int),p.fr.locals,p.fr.stack⟩::Fp (k+1) r else Fp (k+1) r
def Ul (T:TI)(t:Int × Int):Nat:=if t.1=0 then 0 else if t.1=3 then 1+t.2.toNat else if t.1=2 then T.length+1 else 1
def Rl (T:TI)(l:TP):Nat:=(l.map (Ul T)).sum
def Xb (T:TI)(x:Be):Nat:=Rl T x.locals+Rl T x.stack
def Bsu(h:Tr.Ok z){a b:Int×Int}(m:Tr.Arg z a.1 a.2)(i:Tr.Arg z b.1 b.2):Ul z (Tr.joinT z a b)<=Ul z b/\(Tr.fitsB z a.1 a.2 b.1 b.2=false->Ul z (Tr.joinT z a b)<Ul z b):=by
 obtain⟨k,n⟩:=a;obtain⟨c,f⟩:=b;simp only at m i;obtain⟨j,l,p,t⟩:=Tr.join_spec h m i;simp only;by_cases g:Tr.fitsB z k n c f=true
 ·have e:Tr.joinT z (k,n) (c,f)=(c,f):=by unfold Tr.joinT;rw[Sp g]
  rw[e,g];exact⟨Wf _,fun h=>by simp at h⟩
 have q:Tr.joinT z (k,n) (c,f)≠(c,f):=fun e=>g (by rw[e]at l;exact l);generalize Tr.joinT z (k,n) (c,f)=J at *;obtain⟨a,b⟩:=J;simp only at j l p;have:Ul z (a,b)<Ul z (c,f):=by
  unfold Ul;simp only;rcases(Tr.fits_iff ..).1 p with ⟨rfl,rfl⟩ | e|⟨rfl,rfl⟩|⟨rfl,rfl,e⟩
  ·exact absurd rfl q
  ·subst e;have s:c≠0:=by
    rintro rfl;exact g ((Tr.fits_iff ..).2 (.inr (.inl rfl)))
   rw[Sp rfl,Pf s]
   split
   ·omega
   split<;>omega
  ·unfold Tr.Arg at j;rw[Pf Ck,Sp rfl,Pf Ck,Pf Ck,Sp rfl];omega
  unfold Tr.Arg at j i;have:=Tr.below_lt h (a:=f) (b:=b) Bd Bd e;rw[Pf Ck,Sp rfl,Pf Ck,Sp rfl];omega
 exact⟨Bwr this,fun _=>this⟩
def Bbl(h:Tr.Ok z):∀(a b:TP),(∀t∈a,Tr.Arg z t.1 t.2)->(∀t∈b,Tr.Arg z t.1 t.2)->a.length=b.length ->
  Rl z (List.zipWith (Tr.joinT z) a b)<=Rl z b/\(Ee z a b=false->Rl z (List.zipWith (Tr.joinT z) a b)<Rl z b)
 | [],[],_,_,_=>⟨Wf _,fun h=>by simp[Ee]at h⟩
 | [],y::b,_,_,hl=>by simp at hl
 | x::a,[],_,_,hl=>by simp at hl
 | x::a,y::b,ha,hb,hl=>by
  have i:=Bsu h (ha x Fr) (hb y Fr);have e:=Bbl h a b (fun t c=>ha t (by simp[c])) (fun t c=>hb t (by simp[c])) (by simpa using hl);unfold Rl at e ⊢;simp only[B0m,Bwm,List.sum_cons];refine⟨Bd,fun f=>?_⟩;unfold Ee at f;by_cases g:Tr.fitsB z x.1 x.2 y.1 y.2=true
  ·have:Ee z a b=false:=by simpa[g] using f
   have:=e.2 this;omega
  have:=i.2 (by simpa using g);omega
def Bsy(h:Tr.Ok z){y:Be}(c:Ey z x)(e:Ey z y)(f:x.locals.length=y.locals.length)(g:x.stack.length=y.stack.length)(b:Hx z x y=false):Xb z (Lv z x y)<Xb z y:=by
 have j:=Bbl h x.locals y.locals c.1 e.1 f;have l:=Bbl h x.stack y.stack c.2 e.2 g;unfold Hx Mu at b;rw[Sp f,Sp g]at b;unfold Xb Lv;simp only;by_cases i:Ee z x.locals y.locals=true;·have:=l.2 (by simpa[i] using b);omega
 have:=j.2 (by simpa using i);omega
def Bg4:∀(l:TP),(∀t∈l,Tr.Arg z t.1 t.2)->Rl z l<=(z.length+1)*l.length
 | [],_=>by simp[Rl]
 | x::l,h=>by
  have b:=Bg4 l (fun t c=>h t (by simp[c]));have e:=h x Fr;have:Ul z x<=z.length+1:=by
   unfold Ul;unfold Tr.Arg at e
   split
   ·omega
   split
   ·omega
   split<;>omega
  unfold Rl at b ⊢;simp only[Bwm,List.sum_cons,Bvo,Nat.mul_succ];omega
def Ll (T:TI)(lo:Nat)(hi:Int)(isN:Int->Prop)(s:Bt):Prop:=∀p∈s.sp,(p.st=true->J6 T lo hi isN p.fr)/\(p.ri=true->p.st=true)
def If (T:TI)(K:Nat)(p:Od):Nat:=if p.st=true then Xb T p.fr else K
def Mx (T:TI)(K:Nat)(s:Bt):Nat:=(s.sp.map (If T K)).sum*(s.sp.length+1)+s.sp.countP (fun p=>p.ri)
def Ay{α:Type}(f:α->Nat)(d y:α):∀(l:List α) (i:Nat),i<l.length->((l.set i y).map f).sum+f (l.getD i d)=(l.map f).sum+f y
 | [],_,h=>by simp at h
 | x::l,0,_=>Fm
 | x::l,i+1,h=>by
  have:=Ay f d y l i (by simpa using h);simp at this ⊢;omega
def W6{α:Type}(f:α->Bool)(d y:α):∀(l:List α) (i:Nat),i<l.length->(l.set i y).countP f+(if f (l.getD i d)=true then 1 else 0)=l.countP f+(if f y=true then 1 else 0)
 | [],_,h=>by simp at h
 | x::l,0,_=>by
  simp only[Byw,List.countP_cons,List.getD_cons_zero];omega
 | x::l,i+1,h=>by
  have:=W6 f d y l i (by simpa using h);simp only[Bwf,List.countP_cons,B01];omega
def Jf{s:Bt}(h:q<s.sp.length):s.at q∈s.sp:=by
 unfold Bt.at;rw[Th,Ws h];exact Bvh _
structure Io(T:List Int)(lo:Nat)(hi:Int)(isN:Int->Prop)(K:Nat)(s s':Bt):Prop where
 ok:Ll T lo hi isN s'
 len:s'.sp.length=s.sp.length
 mu:Mx T K s'<=Mx T K s
def Io.refl{b:Int->Prop}{Y:Bt}(h:Ll z u c b Y):Io z u c b s Y Y:=⟨h,rfl,Wf _⟩
def Io.trans{f:Int->Prop}{a b e:Bt}(h:Io z u c f s a b)(g:Io z u c f s b e):Io z u c f s a e:=⟨g.ok,g.len.trans h.len,Bvv g.mu h.mu⟩
def Io.stop{b:Int->Prop}{Y:Bt}(h:Ll z u c b Y):Io z u c b s Y Y.stop:=⟨h,rfl,Wf _⟩
def Io.put{b:Int->Prop}{Y:Bt}(h:Ll z u c b Y)(g:j<Y.sp.length){y:Be}(m:J6 z u c b y)(t:Xb z y<If z s (Y.at j)):Io z u c b s Y (Y.put j y):=by
 refine⟨fun p f=>?_,by simp[Bt.put],?_⟩
 ·rcases Bw6 f with f|rfl
  ·exact h p f
  exact⟨fun _=>m,fun _=>rfl⟩
 have i:=Ay (If z s) Jz ⟨y,true,true,(Y.at j).wa⟩ Y.sp j g;have l:=W6 (fun p:Od=>p.ri) Jz ⟨y,true,true,(Y.at j).wa⟩ Y.sp j g;unfold Mx Bt.put;simp only[Bv7];unfold Bt.at at t i l ⊢;simp only[By3]at l;have e:If z s ⟨y,true,true,(Y.sp.getD j Jz).wa⟩=Xb z y:=by unfold If;rw[Sp rfl]
 rw[e]at i;have v:((Y.sp.set j ⟨y,true,true,(Y.sp.getD j Jz).wa⟩).map (If z s)).sum+1<=(Y.sp.map (If z s)).sum:=Bd;have A:=Bze (Y.sp.length+1) v;rw[Nat.add_mul]at A;omega
def Io.want{g:Int->Prop}{Y:Bt}(h:Ll z u c g Y)(b:j<Y.sp.length):Io z u c g s Y (Y.want j):=by
 refine⟨fun p f=>?_,by simp[Bt.want],?_⟩
 ·rcases Bw6 f with f|rfl
  ·exact h p f
  exact⟨(h _ (Jf b)).1,(h _ (Jf b)).2⟩
 have i:=Ay (If z s) Jz ⟨(Y.at j).fr,(Y.at j).st,(Y.at j).ri,true⟩ Y.sp j b;have l:=W6 (fun p:Od=>p.ri) Jz ⟨(Y.at j).fr,(Y.at j).st,(Y.at j).ri,true⟩ Y.sp j b;unfold Mx Bt.want;simp only[Bv7];have e:If z s ⟨(Y.at j).fr,(Y.at j).st,(Y.at j).ri,true⟩=If z s (Y.at j):=rfl;unfold Bt.at at i l e ⊢;rw[e]at i;simp only at l;have m:((Y.sp.set j ⟨(Y.sp.getD j Jz).fr,(Y.sp.getD j Jz).st,(Y.sp.getD j Jz).ri,true⟩).map (If z s)).sum=(Y.sp.map (If z s)).sum:=Bd;rw[m];omega
def Vh{g:Int->Prop}{K:Nat}{Y:Bt}(h:Ll z u c g Y)(b:j<Y.sp.length)(i:(Y.at j).ri=true):Ll z u c g (Y.calm j)/\(Y.calm j).sp.length=Y.sp.length/\Mx z K (Y.calm j)<Mx z K Y:=by
 refine⟨fun p f=>?_,by simp[Bt.calm],?_⟩
 ·rcases Bw6 f with f|rfl
  ·exact h p f
  exact⟨(h _ (Jf b)).1,fun h=>by simp at h⟩
 have l:=Ay (If z K) Jz ⟨(Y.at j).fr,(Y.at j).st,false,(Y.at j).wa⟩ Y.sp j b;have m:=W6 (fun p:Od=>p.ri) Jz ⟨(Y.at j).fr,(Y.at j).st,false,(Y.at j).wa⟩ Y.sp j b;unfold Mx Bt.calm;simp only[Bv7];have e:If z K ⟨(Y.at j).fr,(Y.at j).st,false,(Y.at j).wa⟩=If z K (Y.at j):=rfl;unfold Bt.at at l m e i ⊢;rw[e]at l;simp only[i,By3,Bye,Bxk]at m;have t:((Y.sp.set j ⟨(Y.sp.getD j Jz).fr,(Y.sp.getD j Jz).st,false,(Y.sp.getD j Jz).wa⟩).map (If z K)).sum=(Y.sp.map (If z K)).sum:=Bd;rw[t];omega
def J6.arg{e:Int->Prop}(h:J6 z u c e x):Ey z x:=⟨fun t b=>(h.tl t b).1,fun t b=>(h.ts t b).1⟩
def Bss(h:Tr.Ok z){c:Int->Prop}{a b:Int×Int}(e:Dj z c a)(f:Dj z c b):Dj z c (Tr.joinT z a b):=by
 have j:=(Tr.join_spec h (k:=a.1) (n:=a.2) (k':=b.1) (n':=b.2) e.1 f.1).1;refine⟨j,?_⟩;unfold Tr.joinT
 split
 ·exact f.2
 split
 ·exact e.2
 split
 ·intro h;simp at h
 split
 ·intro h;simp at h
 intro h;simp at h
def Bfr(h:Tr.Ok z){e:Int->Prop}:∀(a b:TP),(∀t∈a,Dj z e t)->(∀t∈b,Dj z e t)->∀t∈List.zipWith (Tr.joinT z) a b,Dj z e t
 | [],_,_,_,t,c=>by simp at c
 | _::_,[],_,_,t,c=>by simp at c
 | x::a,y::b,ha,hb,t,c=>by
  simp only[B0m,Bxy]at c;rcases c with rfl|c
  ·exact Bss h (ha x Fr) (hb y Fr)
  exact Bfr h a b (fun t c=>ha t (by simp[c])) (fun t c=>hb t (by simp[c])) t c
def Bg0(h:Tr.Ok z){e:Int->Prop}{y:Be}(b:J6 z u c e x)(f:J6 z u c e y):J6 z u c e (Lv z x y):=by
 refine⟨?_,?_,Bfr h _ _ b.tl f.tl,Bfr h _ _ b.ts f.ts⟩
 ·have:=b.lo;have:=f.lo;simp[Lv];omega
 have:=b.hi;simp[Lv];omega
def Bu9{e:Int->Prop}(b:J6 z u c e x):Xb z x<(z.length+1)*(u+c.toNat)+1:=by
 have f:=Bg4 x.locals b.arg.1;have h:=Bg4 x.stack b.arg.2;have g:=b.lo;have i:=b.hi;have j:=Nat.mul_le_mul_left (z.length+1) (show x.stack.length<=c.toNat by omega);unfold Xb;rw[Nat.mul_add];rw[g]at f;omega
def Rv (T:TI)(lo:Nat)(hi:Int):Nat:=(T.length+1)*(lo+hi.toNat)+1
def Be3(h:Tr.Ok z){e:Int->Prop}{s:Bt}(b:Ll z u c e s)(i:x.locals.length=u)(j:∀t∈x.locals,Dj z e t)(l:∀t∈x.stack,Dj z e t)(q:Int):Io z u c e (Rv z u c) s (D9 z c x q s):=by
 unfold D9
 split
 ·exact .stop b
 next hn =>
 have f:J6 z u c e x:=⟨i,Bd,j,l⟩
 split
 ·next h1=>exact .put b Bd f (by unfold If;rw[Pf (by simp[h1])];exact Bu9 f)
 next h1 =>
 split
 ·exact .refl b
 next h2 =>
 split
 ·next h3 =>
  have g:=(b _ (Jf (s:=s) (q:=q.toNat) Bd)).1 (by simpa using h1);exact .put b Bd (Bg0 h f g) (by unfold If;rw[Sp (by simpa using h1)];exact Bsy h f.arg g.arg h3.1 h3.2 (by simpa using h2))
 exact .stop b
def Bso{b:Int->Prop}{Y:Bt}(e:Ll z u c b Y)(q:Int):Io z u c b s Y (Vt q Y):=by
 unfold Vt
 split
 ·exact .want e Bd
 exact .refl e
def Bji(h:Tr.Ok z){b:Int->Prop}{Y:Bt}(f:Ll z u c b Y)(g:x.locals.length=u)(i:∀t∈x.locals,Dj z b t)(j:∀t∈x.stack,Dj z b t)(q:Int):Io z u c b (Rv z u c) Y (Ie z c x q Y):=by
 have e:=Be3 h f g i j q;exact e.trans (Bso e.ok q)
def Bax(h:Tr.Ok z){e:Int->Prop}(g:x.locals.length=u)(f:∀t∈x.locals,Dj z e t)(p:Int):∀(i:List Rd.Hnd),(∀y∈i,Tr.Arg z 3 y.cl)->∀{s:Bt},Ll z u c e s->Io z u c e (Rv z u c) s (Dy z c p x.locals i s)
 | [],_,s,h0=>.refl h0
 | y::r,hy,s,h0=>by
  unfold Dy;have j:Io z u c e (Rv z u c) s (if El y p=true then Ie z c ⟨x.locals,[(3,y.cl)]⟩ y.target s else s):=by
   split
   ·exact Bji (x:=⟨x.locals,[(3,y.cl)]⟩) h h0 g f (by intro t f;rw[List.mem_singleton.1 f];exact⟨hy y Fr,fun h=>by simp at h⟩) _
   exact .refl h0
  exact j.trans (Bax h g f p r (fun b l=>hy b (by simp[l])) j.ok)
def Bsq(h:Tr.Ok z){f:Int->Prop}(m:J6 z u c f x){g:List Rd.Hnd}(q:∀y∈g,Tr.Arg z 3 y.cl){p:Cd.Ins->Be->Option Be}{i:Cd.Ins}(t:∀y,p i x=some y->J6 z u c f y){Y:Bt}(v:Ll z u c f Y):Io z u c f (Rv z u c) Y (Mj z c g p i x Y):=by
 have j:=Bax h m.lo m.tl i.place g q v;unfold Mj
 split
 ·exact j.trans (.stop j.ok)
 next y e =>
 have b:=t y e;have l:Io z u c f (Rv z u c) Y (if Dx i.op=true then Ie z c y i.n (Dy z c i.place x.locals g Y) else Dy z c i.place x.locals g Y):=by
  split
  ·exact j.trans (Bji h j.ok b.lo b.tl b.ts _)
  exact j
 simp only
 split
 ·exact l.trans (Be3 h l.ok b.lo b.tl b.ts _)
 exact l
def Xu{T:TI}{lo:Nat}{hi:Int}{isN:Int->Prop}{K:Nat}{lk:Cd.Ins->Be->Bt->Bt}:∀(L:List Cd.Ins),(∀i∈L,0<=i.place) ->
  (∀i∈L,∀x s,J6 T lo hi isN x->Ll T lo hi isN s->Io T lo hi isN K s (lk i x s)) ->
  ∀(b:Bool) {s:Bt},Ll T lo hi isN s->Io T lo hi isN K s (Ct lk L b s).1/\((Ct lk L b s).2=true->b=false->Mx T K (Ct lk L b s).1<Mx T K s)
 | [],_,_,b,s,h0=>⟨.refl h0,fun h g=>by simp[Ct,g]at h⟩
 | i::r,hp,hk,b,s,h0=>by
  unfold Ct;have l:=fun b {s:Bt} h0=>Xu (T:=T) (lo:=lo) (hi:=hi) (isN:=isN) (K:=K) (lk:=lk) r (fun z c=>hp z (by simp[c])) (fun z c=>hk z (by simp[c])) b (s:=s) h0
  split
  ·exact l b h0
  next hn =>
  have v:=hp i Fr;have m:(s.at i.place.toNat).ri=true:=by
   cases h:(s.at i.place.toNat).ri with
   | true=>rfl
   | false=>exact absurd (.inr h) hn
  have e:i.place.toNat<s.sp.length:=by
   have:¬(s.sp.length:Int)<=i.place:=fun h=>hn (.inl h);omega
  obtain⟨p,q,A⟩:=Vh (K:=K) h0 e m;have t:=(h0 _ (Jf e)).1 ((h0 _ (Jf e)).2 m);have f:=hk i Fr _ _ t p;have j:=(l true f.ok).1;have B:=Bvv j.mu f.mu;exact⟨⟨j.ok,j.len.trans (f.len.trans q),Bd⟩,fun _ _=>Bd⟩
def Zi{f:Int->Prop}{K:Nat}{b:Cd.Ins->Be->Bt->Bt}(g:∀i∈L,0<=i.place)
 (j:∀i∈L,∀x s,J6 z u c f x->Ll z u c f s->Io z u c f K s (b i x s)):∀(n m:Nat) {s:Bt},Ll z u c f s->Mx z K s<n->Mx z K s<m->Ku b L n s=Ku b L m s
 | 0,_,s,_,h,_=>absurd h Bd
 | n+1,0,s,_,_,h=>absurd h Bd
 | n+1,m+1,s,h0,hn,hm=>by
  have l:=Xu (K:=K) L g j false h0;unfold Ku;by_cases e:(Ct b L false s).2=true/\(Ct b L false s).1.hop=false;·rw[Sp e,Sp e];have:=l.2 e.1 rfl;exact Zi g j n m l.1.ok Bd Bd
  rw[Pf e,Pf e]
def Ye (T:TI)(K:Nat)(lk:Cd.Ins->Be->Bt->Bt)(L:List Cd.Ins)(s:Bt):Bt:=Ku lk L (Mx T K s+1) s
def Boj{f:Int->Prop}{K:Nat}{b:Cd.Ins->Be->Bt->Bt}(g:∀i∈L,0<=i.place) (h:∀i∈L,∀x Y,J6 z u c f x->Ll z u c f Y->Io z u c f K Y (b i x Y)){Y:Bt}(l:Ll z u c f Y):Ye z K b L Y=if (Ct b L false Y).2=true/\(Ct b L false Y).1.hop=false then Ye z K b L (Ct b L false Y).1 else (Ct b L false Y).1:=by
 have j:=Xu (K:=K) L g h false l;unfold Ye;rw[Ku];by_cases e:(Ct b L false Y).2=true/\(Ct b L false Y).1.hop=false;·rw[Sp e,Sp e];have:=j.2 e.1 rfl;exact Zi g h _ _ j.1.ok Bd Bd
 rw[Pf e,Pf e]
abbrev Zg(T:List Int)(s t:Int × Int):Prop:=Tr.fitsB T s.1 s.2 t.1 t.2=true
def Da (T:TI):TP->TP->Prop
 | [],[]=>True
 | s::a,t::b=>Zg T s t/\Da T a b
 | _,_=>False
def Da.nil:Da z [] []:=trivial
def Da.cons{C t:Int×Int}{a p:TP}(h:Zg z C t)(k:Da z a p):Da z (C::a) (t::p):=⟨h,k⟩
def Da.el{T:TI}{P:(a b:TP)->Da T a b->Prop}(nil:P [] [] .nil)(cons:∀{s t:Int×Int}{a b:TP} (h:Zg T s t) (k:Da T a b),P a b k->P (s::a) (t::b) (.cons h k)):∀{a b:TP} (h:Da T a b),P a b h
 | [],[],_=>nil
 | [],_::_,h=>False.elim h
 | _::_,[],h=>False.elim h
 | _::_,_::_,h=>cons h.1 h.2 (Da.el nil cons h.2)
structure Ew(T:List Int)(x y:Be):Prop where
 lo:Da T x.locals y.locals
 st:Da T x.stack y.stack
def Da.len{a p:TP}(h:Da z a p):a.length=p.length:=by
 induction h using Da.el with
 | nil=>rfl
 | cons _ _ ih=>simp[ih]
def Da.refl(T:TI)(a:TP):Da T a a:=by
 induction a with
 | nil=>exact .nil
 | cons x r ih=>exact .cons (Tr.fits_refl _ _ _) ih
def Da.trans(l:Tr.Ok z){a p c:TP}(h:Da z a p)(g:Da z p c)(f:∀t∈a,Tr.Arg z t.1 t.2)(i:∀t∈p,Tr.Arg z t.1 t.2)(j:∀t∈c,Tr.Arg z t.1 t.2):Da z a c:=by
 induction h using Da.el generalizing c with
 | nil=>exact g
 | cons h1 h2 ih =>
  cases g using Da.el with
  | cons g1 g2=>exact .cons (Tr.fits_trans l (f _ Fr) (i _ Fr) (j _ Fr) h1 g1) (ih g2 (fun t e=>f t (by simp[e])) (fun t e=>i t (by simp[e])) (fun t e=>j t (by simp[e])))
def Da.getD{a p:TP}(h:Da z a p)(i:Nat):Zg z (a.getD i (0,0)) (p.getD i (0,0)):=by
 induction h using Da.el generalizing i with
 | nil=>exact Tr.fits_refl _ _ _
 | cons h1 _ ih =>
  cases i with
  | zero=>simpa using h1
  | succ i=>simpa using ih i
def Da.set{a b:TP}(h:Da z a b)(i:Nat){C t:Int×Int}(c:Zg z C t):Da z (a.set i C) (b.set i t):=by
 induction h using Da.el generalizing i with
 | nil=>exact .nil
 | cons h1 h2 ih =>
  cases i with
  | zero=>exact .cons c h2
  | succ i=>exact .cons h1 (ih i)
def Da.take{a p:TP}(h:Da z a p)(i:Nat):Da z (a.take i) (p.take i):=by
 induction h using Da.el generalizing i with
 | nil=>simpa using Da.nil
 | cons h1 h2 ih =>
  cases i with
  | zero=>exact .nil
  | succ i=>exact .cons h1 (ih i)
def Da.drop{a p:TP}(h:Da z a p)(i:Nat):Da z (a.drop i) (p.drop i):=by
 induction h using Da.el generalizing i with
 | nil=>simpa using Da.nil
 | cons h1 h2 ih =>
  cases i with
  | zero=>exact .cons h1 h2
  | succ i=>exact ih i
def Da.append{a p c d:TP}(h:Da z a p)(g:Da z c d):Da z (a++c) (p++d):=by
 induction h using Da.el with
 | nil=>exact g
 | cons h1 _ ih=>exact .cons h1 ih
def Bhg{C:Int×Int}(h:Zg z C (4,c)):C=(4,c):=by
 rcases(Tr.fits_iff ..).1 h with ⟨a,b⟩ | e|⟨e,_⟩|⟨e,_⟩
 ·exact Bxd a b
 ·exact absurd e Fr
 ·exact absurd e Fr
 exact absurd e Fr
def Bpx{C:Int×Int}(h:Zg z (4,c) C):C=(4,c)\/C.1=0:=by
 rcases(Tr.fits_iff ..).1 h with ⟨a,b⟩ | e|⟨_,e⟩|⟨_,e,_⟩
 ·exact .inl (Bxd a.symm b.symm)
 ·exact .inr e
 ·exact absurd e Fr
 exact absurd e Fr
def Da.turned{a p:TP}(h:Da z a p)(c:Int)(u:Int×Int):Da z (Er (4,c) u a) (Er (4,c) u p):=by
 induction h using Da.el with
 | nil=>exact .nil
 | @cons s t a p h1 _ ih =>
  refine Da.cons ?_ ih;show Zg z (if s=(4,c) then u else s) (if t=(4,c) then u else t)
  by_cases e:s=(4,c)
  ·subst e;rw[Sp rfl];rcases Bpx h1 with rfl|f
   ·rw[Sp rfl];exact Tr.fits_refl _ _ _
   rw[Pf (by rintro rfl;simp at f)];exact(Tr.fits_iff ..).2 (.inr (.inl f))
  rw[Pf e];by_cases g:t=(4,c);·subst g;exact absurd (Bhg h1) e
  rw[Pf g];exact h1
def Bof(l:Tr.Ok z){a p:TP}(h:Da z a p)(g:∀t∈a,Tr.Arg z t.1 t.2)(i:∀t∈p,Tr.Arg z t.1 t.2):∀{c:TP},(∀t∈c,Tr.Arg z t.1 t.2)->Ee z p c=true->Ee z a c=true:=by
 induction h using Da.el with
 | nil=>exact fun _ h=>h
 | cons h1 _ ih =>
  intro c j f;cases c with
  | nil=>simp[Ee]
  | cons u c =>
   simp only[Ee,Bwk]at f ⊢;exact⟨Tr.fits_trans l (g _ Fr) (i _ Fr) (j _ Fr) h1 f.1,ih (fun t e=>g t (by simp[e])) (fun t e=>i t (by simp[e])) (fun t e=>j t (by simp[e])) f.2⟩
def Bmf(g:Tr.Ok z){a p c:TP}(h:Da z a p)(j:∀t∈a,Tr.Arg z t.1 t.2)(l:∀t∈p,Tr.Arg z t.1 t.2)(i:∀t∈c,Tr.Arg z t.1 t.2)(f:Ig z p c=true):Ig z a c=true:=by
 unfold Ig at f ⊢;rw[h.len];by_cases m:p.length<c.length;·rw[Sp m]at f;cases f
 rw[Pf m]at f ⊢;rw[Pg g _ _ (fun t e=>l t (Bxe e)) i]at f;rw[Pg g _ _ (fun t e=>j t (Bxe e)) i];exact Bof g (h.drop _) (fun t e=>j t (Bxe e)) (fun t e=>l t (Bxe e)) i f
def Bkr(v:Tr.Ok z){q lv want:TP}{arg:Int->Int}{op n:Int}{y b:Be}(A:Ey z x)(B:Ey z y)(O:∀t∈q,Tr.Arg z t.1 t.2)(Q:∀t∈want,Tr.Arg z t.1 t.2)(h:Ew z x y) (f:Mz z q lv want arg c op n y=some b):∃u,Mz z q lv want arg c op n x=some u/\Ew z u b:=by
 have el:=h.lo.len;have j:=h.st.len;unfold Mz at f ⊢;by_cases C:op=2
 ·rw[Sp C]at f ⊢;have l:=h.lo.getD n.toNat;by_cases D:(y.locals.getD n.toNat (0,0)).1=0;·rw[Sp D]at f;cases f
  rw[Pf D]at f;have V:(x.locals.getD n.toNat (0,0)).1≠0:=by
   intro e;rcases(Tr.fits_iff ..).1 l with ⟨a,_⟩ | a|⟨_,a⟩|⟨_,a,_⟩<;>omega
  rw[Pf V];cases f;exact⟨_,rfl,h.lo,h.st.append (.cons l .nil)⟩
 rw[Pf C]at f ⊢;by_cases F:op=3
 ·rw[Sp F,j]at *;by_cases g:y.stack.length<1;·rw[Sp g]at f;cases f
  rw[Pf g]at f ⊢;cases f;exact⟨_,rfl,h.lo.set _ (h.st.getD _),h.st.take _⟩
 rw[Pf F]at f ⊢;by_cases G:op=4
 ·rw[Sp G,j]at *;by_cases g:y.stack.length<1;·rw[Sp g]at f;cases f
  rw[Pf g]at f ⊢;cases f;exact⟨_,rfl,h.lo,h.st.take _⟩
 rw[Pf G]at f ⊢;by_cases I:op=5
 ·rw[Sp I,j]at *;by_cases g:y.stack.length<1;·rw[Sp g]at f;cases f
  rw[Pf g]at f ⊢;cases f;exact⟨_,rfl,h.lo,h.st.append (h.st.drop _)⟩
 rw[Pf I]at f ⊢;by_cases J:op=6
 ·rw[Sp J,j]at *;by_cases g:y.stack.length<2;·rw[Sp g]at f;cases f
  rw[Pf g]at f ⊢;cases f;exact⟨_,rfl,h.lo,(h.st.take _).append (.cons (h.st.getD _) (.cons (h.st.getD _) .nil))⟩
 rw[Pf J]at f ⊢;by_cases K:op=15;·rw[Sp K]at f ⊢;cases f;exact⟨_,rfl,h.lo.turned _ _,(h.st.turned _ _).append (.cons (Tr.fits_refl _ _ _) .nil)⟩
 rw[Pf K]at f ⊢;by_cases L:op=16
 ·rw[Sp L]at f ⊢;unfold Yh at f ⊢;rw[j]at *;by_cases i:Ig z y.stack want=false;·rw[Sp i]at f;cases f
  have s:=Bmf v h.st A.2 B.2 Q (by simpa using i);rw[Pf i]at f;rw[Pf (by simp[s])];by_cases g:y.stack.length<want.length+1;·rw[Sp g]at f;cases f
  rw[Pf g]at f ⊢;have l:=h.st.getD (y.stack.length-want.length-1);have Y:=h.st.take (y.stack.length-want.length-1);generalize y.stack.getD (y.stack.length-want.length-1) (0,0)=r at *;generalize x.stack.getD (y.stack.length-want.length-1) (0,0)=r' at *;by_cases m:r.1≠4;·rw[Sp m]at f;cases f
  rw[Pf m]at f;obtain⟨Z,r2⟩:=r;have:Z=4:=by simpa using m
  subst this;have e:=Bhg l;subst e;rw[Pf m];by_cases N:arg r2≠n;·rw[Sp N]at f;cases f
  rw[Pf N]at f ⊢;cases f;exact⟨_,rfl,h.lo.turned _ _,Y.turned _ _⟩
 rw[Pf L]at f ⊢;by_cases i:Ig z y.stack q=false;·rw[Sp i]at f;cases f
 have s:=Bmf v h.st A.2 B.2 O (by simpa using i);rw[Pf i,j]at *;rw[Pf (by simp[s])];cases f;exact⟨_,rfl,h.lo,(h.st.take _).append (.refl _ _)⟩
structure Df where
 T:List Int
 lo:Nat
 hi:Int
 isN:Int->Prop
 n:Nat
 ps:List Nat
 hs:List Rd.Hnd
 rl:Nat->Be->Option Be
 op:Nat->Int
 ar:Nat->Int
 x0:Be
abbrev Df.I(E:Df)(x:Be):Prop:=J6 E.T E.lo E.hi E.isN x
def Df.nx(E:Df)(p:Nat):Int:=(p:Int)+(Cd.wd (E.op p):Int)
structure Df.Good(E:Df):Prop where
 T:Tr.Ok E.T
 x0:E.I E.x0
 rl:∀p∈E.ps,∀x y,E.I x->E.rl p x=some y->E.I y
 mono:∀p∈E.ps,∀x y z,E.I x->E.I y->Ew E.T x y->E.rl p y=some z->∃u,E.rl p x=some u/\Ew E.T u z
 tgt:∀p∈E.ps,Dx (E.op p)=true->0<=E.ar p/\E.ar p<(E.n:Int)/\(E.ar p).toNat∈E.ps
 nxt:∀p∈E.ps,E.nx p<(E.n:Int)->(E.nx p).toNat∈E.ps
 hnd:∀h∈E.hs,0<=h.target/\h.target<(E.n:Int)/\h.target.toNat∈E.ps/\Tr.Arg E.T 3 h.cl
 zero:0∈E.ps
 lt:∀p∈E.ps,p<E.n
def Gp (x:Be)(h:Rd.Hnd):Be:=⟨x.locals,[(3,h.cl)]⟩
def Fc (E:Df)(p:Nat)(x:Be)(q:Int)(y:Be)(a:Bool):Prop :=
 (∃h,h∈E.hs/\El h (p:Int)=true/\q=h.target/\y=Gp x h/\a=true)\/(E.rl p x=some y/\Dx (E.op p)=true/\q=E.ar p/\a=true)\/(E.rl p x=some y/\Dz (E.op p)=true/\q=E.nx p/\a=false)
def Fc.hnd{E:Df}(h:Rd.Hnd)(k:h∈E.hs)(c:El h (u:Int)=true):Fc E u x h.target (Gp x h) true:=Or.inl ⟨h,k,c,rfl,rfl,rfl⟩
def Fc.jmp{E:Df}(y:Be)(k:E.rl u x=some y)(c:Dx (E.op u)=true):Fc E u x (E.ar u) y true:=Or.inr (Or.inl ⟨k,c,rfl,rfl⟩)
def Fc.nxt{E:Df}(y:Be)(k:E.rl u x=some y)(c:Dz (E.op u)=true):Fc E u x (E.nx u) y false:=Or.inr (Or.inr ⟨k,c,rfl,rfl⟩)
def Fc.el{E:Df}{p:Nat}{x:Be}{P:(q:Int)->(y:Be)->(a:Bool)->Fc E p x q y a->Prop}(hnd:∀(h:Rd.Hnd) (k:h∈E.hs) (c:El h (p:Int)=true),P _ _ _ (.hnd h k c))(jmp:∀(y:Be) (k:E.rl p x=some y) (c:Dx (E.op p)=true),P _ _ _ (.jmp y k c))(nxt:∀(y:Be) (k:E.rl p x=some y) (c:Dz (E.op p)=true),P _ _ _ (.nxt y k c)){q:Int}{y:Be}{a:Bool}(h:Fc E p x q y a):P q y a h:=by
 rcases h with ⟨h,k,c,rfl,rfl,rfl⟩|⟨k,c,rfl,rfl⟩|⟨k,c,rfl,rfl⟩
 ·exact hnd h k c
 ·exact jmp y k c
 exact nxt y k c
structure Buw(E:Df)(F:Nat->Option Be)(W:Nat->Prop)(p:Nat)(x:Be):Prop where
 rl:∃y,E.rl p x=some y
 go:∀q y a,Fc E p x q y a->0<=q/\q<(E.n:Int)/\(y.stack.length:Int)<=E.hi/\(∃z,F q.toNat=some z/\Ew E.T y z)/\(a=true->W q.toNat)
structure Tc(E:Df)(F:Nat->Option Be):Prop where
 inv:∀p x,F p=some x->E.I x
 x0:∃y,F 0=some y/\Ew E.T E.x0 y
 sat:∀p∈E.ps,∀x,F p=some x->Buw E F (fun _=>True) p x
def Bc2 (E:Df)(p q:Nat):Prop:=(∃h∈E.hs,El h (p:Int)=true/\h.target.toNat=q)\/(Dx (E.op p)=true/\(E.ar p).toNat=q)
def Ew.refl(T:TI)(x:Be):Ew T x x:=⟨.refl _ _,.refl _ _⟩
def Ew.trans{E:Df}(g:E.Good){y z:Be}(h:Ew E.T x y)(k:Ew E.T y z)(b:Ey E.T x)(c:Ey E.T y)(e:Ey E.T z):Ew E.T x z :=
 ⟨h.lo.trans g.T k.lo b.1 c.1 e.1,h.st.trans g.T k.st b.2 c.2 e.2⟩
def Su{T:TI}:∀{a b:TP},a.length=b.length->(Ee T a b=true<->Da T a b)
 | [],[],_=>⟨fun _=>.nil,fun _=>rfl⟩
 | [],_::_,h=>by simp at h
 | _::_,[],h=>by simp at h
 | s::a,t::b,h=>by
  have c:=Su (T:=T) (a:=a) (b:=b) (by simpa using h);simp only[Ee,Bwk]
  constructor
  ·rintro ⟨e,f⟩;exact .cons e (c.1 f)
  intro k;cases k using Da.el with
  | cons k1 k2=>exact⟨k1,c.2 k2⟩
def Bbm{y:Be}:Hx z x y=true<->Ew z x y:=by
 unfold Hx Mu
 constructor
 ·intro h;simp only[Bwk]at h;obtain⟨b,c⟩:=h
  split at b
  ·next e1 =>
   split at c
   ·next e2=>exact⟨(Su e1).1 b,(Su e2).1 c⟩
   cases c
  cases b
 intro h;rw[Sp h.lo.len,Sp h.st.len,(Su h.lo.len).2 h.lo,(Su h.st.len).2 h.st];rfl
def Bbk(f:Tr.Ok z):∀(a b:TP),(∀t∈a,Tr.Arg z t.1 t.2)->(∀t∈b,Tr.Arg z t.1 t.2)->a.length=b.length ->
  Da z a (List.zipWith (Tr.joinT z) a b)/\Da z b (List.zipWith (Tr.joinT z) a b)/\∀c,(∀t∈c,Tr.Arg z t.1 t.2)->Da z a c->Da z b c->Da z (List.zipWith (Tr.joinT z) a b) c
 | [],[],_,_,_=>⟨.nil,.nil,fun c _ h _=>h⟩
 | [],_::_,_,_,h=>by simp at h
 | _::_,[],_,_,h=>by simp at h
 | s::a,t::b,ha,hb,h=>by
  obtain⟨i,j,l⟩:=Bbk f a b (fun t e=>ha t (by simp[e])) (fun t e=>hb t (by simp[e])) (by simpa using h);obtain⟨_,m,p,q⟩:=Tr.join_spec f (k:=s.1) (n:=s.2) (k':=t.1) (n':=t.2) (ha s Fr) (hb t Fr);refine⟨.cons m i,.cons p j,fun c g v A=>?_⟩;cases v using Da.el with
  | cons h11 h12 =>
   cases A using Da.el with
   | cons h21 h22=>exact .cons (q _ _ (g _ Fr) h11 h21) (l _ (fun t e=>g t (by simp[e])) h12 h22)
def Bjj(c:Tr.Ok z){y:Be}(e:Ey z x)(f:Ey z y)(j:x.locals.length=y.locals.length)(l:x.stack.length=y.stack.length):Ew z x (Lv z x y)/\Ew z y (Lv z x y)/\∀b,Ey z b->Ew z x b->Ew z y b->Ew z (Lv z x y) b:=by
 obtain⟨m,p,q⟩:=Bbk c x.locals y.locals e.1 f.1 j;obtain⟨s,t,v⟩:=Bbk c x.stack y.stack e.2 f.2 l;exact⟨⟨m,s⟩,⟨p,t⟩,fun b g h i=>⟨q _ g.1 h.lo i.lo,v _ g.2 h.st i.st⟩⟩
def Bn5{E:Df}(g:E.Good)(j:u∈E.ps){y:Be}(l:E.I x)(m:E.I y)(h:Ew E.T x y){b:Be}{a:Bool}(t:Fc E u x c b a)(s:∃z,E.rl u y=some z):∃z,Fc E u y c z a/\Ew E.T b z:=by
 cases t using Fc.el with
 | hnd k hk hc=>exact⟨_,.hnd k hk hc,h.lo,.refl _ _⟩
 | jmp _ h1 h2 =>
  obtain⟨z,e⟩:=s;obtain⟨v,f,i⟩:=g.mono u j x y z l m h e;rw[h1]at f;cases f;exact⟨z,.jmp z e h2,i⟩
 | nxt _ h1 h2 =>
  obtain⟨z,e⟩:=s;obtain⟨v,f,i⟩:=g.mono u j x y z l m h e;rw[h1]at f;cases f;exact⟨z,.nxt z e h2,i⟩
def Bad{E:Df}(g:E.Good)(f:u∈E.ps)(e:E.I x){b:Be}{a:Bool}(i:Fc E u x c b a):b.locals.length=E.lo/\(∀t∈b.locals,Dj E.T E.isN t)/\∀t∈b.stack,Dj E.T E.isN t:=by
 cases i using Fc.el with
 | hnd k hk hc=>exact⟨e.lo,e.tl,fun t j=>by rw[List.mem_singleton.1 j];exact⟨(g.hnd k hk).2.2.2,fun h=>by simp at h⟩⟩
 | jmp _ h1 _=>have:=g.rl u f x b e h1;exact⟨this.lo,this.tl,this.ts⟩
 | nxt _ h1 _=>have:=g.rl u f x b e h1;exact⟨this.lo,this.tl,this.ts⟩
def Bqw{E:Df}{b:Be}(e:Fc E u x c b true):Bc2 E u c.toNat:=by
 cases e using Fc.el with
 | hnd k hk hc=>exact .inl ⟨k,hk,hc,rfl⟩
 | jmp _ h1 h2=>exact .inr ⟨h2,rfl⟩
def Bs0{E:Df}(g:E.Good)(e:u∈E.ps){b:Be}{a:Bool}(f:Fc E u x c b a)(h:c<(E.n:Int)):c.toNat∈E.ps:=by
 cases f using Fc.el with
 | hnd k hk hc=>exact(g.hnd k hk).2.2.1
 | jmp _ h1 h2=>exact(g.tgt u e h2).2.2
 | nxt _ h1 _=>exact g.nxt u e h
def Bt.F (s:Bt)(q:Nat):Option Be:=if (s.at q).st=true then some (s.at q).fr else none
def Ol{Y:Bt}:Y.F u=some x<->(Y.at u).st=true/\(Y.at u).fr=x:=by
 unfold Bt.F
 split
 ·next h=>simp[h]
 next h=>simp[h]
def at_out{Y:Bt}(h:Y.sp.length<=u):Y.at u=Jz:=by unfold Bt.at;rw[Th,Bwz h];rfl
def Bu1{Y:Bt}(h:(Y.at u).st=true):u<Y.sp.length:=by
 by_cases b:u<Y.sp.length;·exact b
 rw[at_out Bd]at h;cases h
abbrev Df.Ok(E:Df)(s:Bt):Prop:=Ll E.T E.lo E.hi E.isN s
def Ov{E:Df}{Y:Bt}(h:E.Ok Y)(b:(Y.at u).st=true):E.I (Y.at u).fr:=(h _ (Jf (Bu1 b))).1 b
structure My(E:Df)(s s':Bt):Prop where
 ok:E.Ok s'
 len:s'.sp.length=s.sp.length
 hop:s.hop=true->s'.hop=true
 st:∀q,(s.at q).st=true->(s'.at q).st=true/\Ew E.T (s.at q).fr (s'.at q).fr
 wa:∀q,(s.at q).wa=true->(s'.at q).wa=true
 ri:∀q,(s'.at q).ri=false->(s.at q).ri=false/\(s'.at q).fr=(s.at q).fr/\(s'.at q).st=(s.at q).st
def My.refl{E:Df}{Y:Bt}(h:E.Ok Y):My E Y Y:=⟨h,rfl,fun h=>h,fun q h=>⟨h,.refl _ _⟩,fun _ h=>h,fun _ h=>⟨h,rfl,rfl⟩⟩
def My.trans{E:Df}(g:E.Good){a b c:Bt}(m:E.Ok a)(h:My E a b)(k:My E b c):My E a c:=by
 refine⟨k.ok,k.len.trans h.len,fun x=>k.hop (h.hop x),fun q e=>?_,fun q e=>k.wa q (h.wa q e),fun q e=>?_⟩
 ·obtain⟨f,j⟩:=h.st q e;obtain⟨i,l⟩:=k.st q f;exact⟨i,j.trans g l (Ov m e).arg (Ov h.ok f).arg (Ov k.ok i).arg⟩
 obtain⟨i,l,p⟩:=k.ri q e;obtain⟨f,j,s⟩:=h.ri q i;exact⟨f,l.trans j,p.trans s⟩
def My.stop{E:Df}{Y:Bt}(h:E.Ok Y):My E Y Y.stop:=⟨h,rfl,fun _=>rfl,fun q h=>⟨h,.refl _ _⟩,fun _ h=>h,fun _ h=>⟨h,rfl,rfl⟩⟩
def Rb(s:Bt)(b:u<s.sp.length)(y:Be)(i:Nat):(s.put u y).at i=if i=u then ⟨y,true,true,(s.at u).wa⟩ else s.at i:=by
 unfold Bt.put Bt.at;simp only[Th,Bxi];by_cases e:u=i;·subst e;simp[b]
 rw[Pf e,Pf (fun h=>e h.symm)]
def Te(s:Bt)(b:u<s.sp.length)(i:Nat):(s.want u).at i=if i=u then ⟨(s.at u).fr,(s.at u).st,(s.at u).ri,true⟩ else s.at i:=by
 unfold Bt.want Bt.at;simp only[Th,Bxi];by_cases e:u=i;·subst e;simp[b]
 rw[Pf e,Pf (fun h=>e h.symm)]
def Vn(s:Bt)(b:u<s.sp.length)(i:Nat):(s.calm u).at i=if i=u then ⟨(s.at u).fr,(s.at u).st,false,(s.at u).wa⟩ else s.at i:=by
 unfold Bt.calm Bt.at;simp only[Th,Bxi];by_cases e:u=i;·subst e;simp[b]
 rw[Pf e,Pf (fun h=>e h.symm)]
def My.put{E:Df}{Y:Bt}(h:E.Ok Y)(c:u<Y.sp.length){y:Be}(g:E.I y)(j:(Y.at u).st=true->Ew E.T (Y.at u).fr y):My E Y (Y.put u y):=by
 refine⟨fun p f=>?_,by simp[Bt.put],fun h=>h,fun i b=>?_,fun i b=>?_,fun i b=>?_⟩
 ·rcases Bw6 f with f|rfl
  ·exact h p f
  exact⟨fun _=>g,fun _=>rfl⟩
 ·rw[Rb Y c]
  split
  ·next e=>subst e;exact⟨rfl,j b⟩
  exact⟨b,.refl _ _⟩
 ·rw[Rb Y c]
  split
  ·next e=>subst e;exact b
  exact b
 rw[Rb Y c]at b ⊢
 split at b
 ·cases b
 next e=>rw[Pf e];exact⟨b,rfl,rfl⟩
def My.want{E:Df}{Y:Bt}(h:E.Ok Y)(c:u<Y.sp.length):My E Y (Y.want u):=by
 refine⟨fun p f=>?_,by simp[Bt.want],fun h=>h,fun i b=>?_,fun i b=>?_,fun i b=>?_⟩
 ·rcases Bw6 f with f|rfl
  ·exact h p f
  exact⟨(h _ (Jf c)).1,(h _ (Jf c)).2⟩
 ·rw[Te Y c]
  split
  ·next e=>subst e;exact⟨b,.refl _ _⟩
  exact⟨b,.refl _ _⟩
 ·rw[Te Y c]
  split
  ·rfl
  exact b
 rw[Te Y c]at b ⊢
 split at b
 ·next e=>subst e;rw[Sp rfl];exact⟨b,rfl,rfl⟩
 next e=>rw[Pf e];exact⟨b,rfl,rfl⟩
def Bou{E:Df}(g:E.Good){Y:Bt}(h:E.Ok Y)(z:Y.sp.length=E.n)(f:x.locals.length=E.lo/\(∀t∈x.locals,Dj E.T E.isN t)/\∀t∈x.stack,Dj E.T E.isN t)(q:Int):My E Y (D9 E.T E.hi x q Y)/\((D9 E.T E.hi x q Y).hop=false->0<=q/\q<(E.n:Int)/\(x.stack.length:Int)<=E.hi/\((D9 E.T E.hi x q Y).at q.toNat).st=true/\Ew E.T x ((D9 E.T E.hi x q Y).at q.toNat).fr)/\(∀i,((D9 E.T E.hi x q Y).at i).st=true->(Y.at i).st=true\/(i=q.toNat/\q<(E.n:Int)))/\(∀i,((D9 E.T E.hi x q Y).at i).wa=(Y.at i).wa):=by
 unfold D9
 split
 ·exact⟨.stop h,fun h=>(by cases h),fun i b=>.inl b,fun _=>rfl⟩
 next hc =>
 have j:E.I x:=⟨f.1,Bd,f.2.1,f.2.2⟩;have c:q.toNat<Y.sp.length:=Bd
 split
 ·next h1 =>
  refine⟨.put h c j (fun e=>by rw[h1]at e;cases e),fun _=>⟨Bd,Bd,Bd,?_⟩,fun i b=>?_,fun i=>?_⟩
  ·rw[Rb Y c,Sp rfl];exact⟨rfl,.refl _ _⟩
  ·rw[Rb Y c]at b
   split at b
   ·next e=>exact .inr ⟨e,Bd⟩
   exact .inl b
  rw[Rb Y c]
  split
  ·next e=>rw[e]
  rfl
 next h1 =>
 have l:(Y.at q.toNat).st=true:=by simpa using h1
 have m:=Ov h l
 split
 ·next h2=>exact⟨.refl h,fun _=>⟨Bd,Bd,Bd,l,Bbm.1 h2⟩,fun i b=>.inl b,fun _=>rfl⟩
 split
 ·next h3 =>
  obtain⟨p,v,A⟩:=Bjj g.T j.arg m.arg h3.1 h3.2;refine⟨.put h c (Bg0 g.T j m) (fun _=>v),fun _=>⟨Bd,Bd,Bd,?_⟩,fun i b=>?_,fun i=>?_⟩
  ·rw[Rb Y c,Sp rfl];exact⟨rfl,p⟩
  ·rw[Rb Y c]at b
   split at b
   ·next e=>exact .inr ⟨e,Bd⟩
   exact .inl b
  rw[Rb Y c]
  split
  ·next e=>rw[e]
  rfl
 exact⟨.stop h,fun h=>(by cases h),fun i b=>.inl b,fun _=>rfl⟩
def Hn (E:Df)(F:Nat->Option Be)(s:Bt):Prop:=s.hop=false/\∀q,(s.at q).st=true->∃z,F q=some z/\Ew E.T (s.at q).fr z
def Wj{E:Df}(g:E.Good){F:Nat->Option Be}(hF:∀p x,F p=some x->E.I x){Y:Bt}(h:E.Ok Y)(O:Y.sp.length=E.n)(c:Hn E F Y)(f:x.locals.length=E.lo/\(∀t∈x.locals,Dj E.T E.isN t)/\∀t∈x.stack,Dj E.T E.isN t){q:Int} (Q:0<=q)(V:q<(E.n:Int)){z:Be}(j:F q.toNat=some z)(b:Ew E.T x z):Hn E F (D9 E.T E.hi x q Y):=by
 have v:=hF _ _ j;have J:(x.stack.length:Int)<=E.hi:=by rw[b.st.len];exact v.hi
 have K:E.I x:=⟨f.1,J,f.2.1,f.2.2⟩;have L:q.toNat<Y.sp.length:=Bd;unfold D9;rw[Pf Bd];have A:∀y,Ew E.T y z->Hn E F (Y.put q.toNat y):=fun y N=>by
  refine⟨c.1,fun i l=>?_⟩;rw[Rb Y L]at l ⊢
  split at l
  ·next e=>subst e;rw[Sp rfl];exact⟨z,j,N⟩
  next e=>rw[Pf e];exact c.2 i l
 split
 ·exact A x b
 next h2 =>
 have B:(Y.at q.toNat).st=true:=by simpa using h2
 split
 ·exact c
 obtain⟨Z,C,m⟩:=c.2 _ B;rw[j]at C;cases C;have D:x.locals.length=(Y.at q.toNat).fr.locals.length:=b.lo.len.trans m.lo.len.symm;have G:x.stack.length=(Y.at q.toNat).fr.stack.length:=b.st.len.trans m.st.len.symm;rw[Sp ⟨D,G⟩];exact A _ ((Bjj g.T K.arg (Ov h B).arg D G).2.2 z v.arg b m)
def Tw (E:Df)(s:Bt)(q:Int)(y:Be)(a:Bool):Prop:=0<=q/\q<(E.n:Int)/\(y.stack.length:Int)<=E.hi/\(∃z,s.F q.toNat=some z/\Ew E.T y z)/\(a=true->(s.at q.toNat).wa=true)
def Tw.up{E:Df}(g:E.Good){Y b:Bt}(j:E.Ok Y)(h:My E Y b){y:Be}(l:Ey E.T y){a:Bool}(m:Tw E Y c y a):Tw E b c y a:=by
 obtain⟨p,t,v,⟨z,A,B⟩,C⟩:=m;obtain⟨f,rfl⟩:=Ol.1 A;obtain⟨i,D⟩:=h.st _ f;exact⟨p,t,v,⟨_,Ol.2 ⟨i,rfl⟩,B.trans g D l (Ov j f).arg (Ov h.ok i).arg⟩,fun e=>h.wa _ (C e)⟩
structure Bdn(E:Df)(s s':Bt)(q:Int)(y:Be)(a:Bool):Prop where
 up:My E s s'
 told:s'.hop=false->Tw E s' q y a
 st:∀i,(s'.at i).st=true->(s.at i).st=true\/(i=q.toNat/\q<(E.n:Int))
 wa:∀i,(s'.at i).wa=true->(s.at i).wa=true\/(i=q.toNat/\a=true)
def Uh{E:Df}(g:E.Good){Y:Bt}(h:E.Ok Y)(b:Y.sp.length=E.n)(c:x.locals.length=E.lo/\(∀t∈x.locals,Dj E.T E.isN t)/\∀t∈x.stack,Dj E.T E.isN t)(q:Int):Bdn E Y (D9 E.T E.hi x q Y) q x false:=by
 obtain⟨f,j,l,m⟩:=Bou g h b c q;refine⟨f,fun p=>?_,l,fun i v=>.inl (by rw[<- m];exact v)⟩;obtain⟨z,A,B,C,D⟩:=j p;exact⟨z,A,B,⟨_,Ol.2 ⟨C,rfl⟩,D⟩,fun e=>by cases e⟩
def W2{E:Df}(g:E.Good){Y:Bt}(h:E.Ok Y)(p:Y.sp.length=E.n)(j:x.locals.length=E.lo/\(∀t∈x.locals,Dj E.T E.isN t)/\∀t∈x.stack,Dj E.T E.isN t)(q:Int):Bdn E Y (Ie E.T E.hi x q Y) q x true:=by
 have c:=Uh g h p j q;unfold Ie Vt;have v:=c.up.len
 split
 ·next hc =>
  have f:q.toNat<(D9 E.T E.hi x q Y).sp.length:=Bd;have u:=My.want c.up.ok f;refine⟨c.up.trans g h u,fun l=>?_,fun i b=>?_,fun i b=>?_⟩
  ·have t:=(c.told l).up g c.up.ok u ⟨fun t m=>(j.2.1 t m).1,fun t m=>(j.2.2 t m).1⟩;exact⟨t.1,t.2.1,t.2.2.1,t.2.2.2.1,fun _=>by rw[Te _ f,Sp rfl]⟩
  ·rw[Te _ f]at b
   split at b
   ·next e=>subst e;exact c.st _ b
   exact c.st i b
  rw[Te _ f]at b
  split at b
  ·next e=>exact .inr ⟨e,rfl⟩
  rcases c.wa i b with h|⟨_,h⟩
  ·exact .inl h
  cases h
 next hc =>
 refine⟨c.up,fun l=>?_,c.st,fun i b=>?_⟩
 ·have t:=c.told l;exact absurd ⟨t.1,by rw[v,p];exact t.2.1⟩ hc
 rcases c.wa i b with h|⟨_,h⟩
 ·exact .inl h
 cases h
def Bch{E:Df}(g:E.Good){F:Nat->Option Be}(hF:∀p x,F p=some x->E.I x){Y:Bt}(h:E.Ok Y)(f:Y.sp.length=E.n)(j:Hn E F Y)(l:x.locals.length=E.lo/\(∀t∈x.locals,Dj E.T E.isN t)/\∀t∈x.stack,Dj E.T E.isN t) (m:0<=c)(v:c<(E.n:Int)){z:Be}(A:F c.toNat=some z)(B:Ew E.T x z):Hn E F (Ie E.T E.hi x c Y):=by
 have u:=Wj g hF h f j l m v A B;unfold Ie Vt
 split
 ·next hc =>
  have C:c.toNat<(D9 E.T E.hi x c Y).sp.length:=Bd;refine⟨u.1,fun i b=>?_⟩;rw[Te _ C]at b ⊢
  split at b
  ·next e=>subst e;rw[Sp rfl];exact u.2 _ b
  next e=>rw[Pf e];exact u.2 i b
 exact u
structure Lg(E:Df)(s s':Bt)(R:Int->Be->Bool->Prop):Prop where
 up:My E s s'
 told:s'.hop=false->∀q y a,R q y a->Tw E s' q y a
 st:∀i,(s'.at i).st=true->(s.at i).st=true\/∃q y a,R q y a/\i=q.toNat/\q<(E.n:Int)
 wa:∀i,(s'.at i).wa=true->(s.at i).wa=true\/∃q y,R q y true/\i=q.toNat
def Lg.nil{E:Df}{Y:Bt}(h:E.Ok Y){R:Int->Be->Bool->Prop}(b:∀q y a,¬R q y a):Lg E Y Y R:=⟨.refl h,fun _ q y a h=>absurd h (b q y a),fun _ h=>.inl h,fun _ h=>.inl h⟩
def Lg.one{E:Df}{Y p:Bt}{y:Be}{a:Bool}(h:Bdn E Y p c y a){R:Int->Be->Bool->Prop}(g:∀b e f,R b e f<->b=c/\e=y/\f=a):Lg E Y p R :=
 ⟨h.up,fun t b e f v=>by obtain⟨rfl,rfl,rfl⟩:=(g b e f).1 v;exact h.told t,fun i j=>(h.st i j).imp id fun ⟨l,m⟩=>⟨c,y,a,(g _ _ _).2 ⟨rfl,rfl,rfl⟩,l,m⟩,fun i j=>(h.wa i j).imp id fun ⟨l,m⟩=>⟨c,y,(g _ _ _).2 ⟨rfl,rfl,m.symm⟩,l⟩⟩
def Lg.trans{E:Df}(g:E.Good){Y t u:Bt}(m:E.Ok Y){A B R:Int->Be->Bool->Prop}(h:Lg E Y t A)(k:Lg E t u B)(p:∀q y a,A q y a->Ey E.T y)(f:∀q y a,R q y a<->A q y a\/B q y a):Lg E Y u R:=by
 refine⟨h.up.trans g m k.up,fun j q y a v=>?_,fun i l=>?_,fun i l=>?_⟩
 ·have z:t.hop=false:=by
   cases e:t.hop with
   | false=>rfl
   | true=>rw[k.up.hop e]at j;cases j
  rcases(f q y a).1 v with b|b
  ·exact(h.told z q y a b).up g h.up.ok k.up (p q y a b)
  exact k.told j q y a b
 ·rcases k.st i l with b|⟨q,y,a,b,c⟩
  ·exact(h.st i b).imp id fun ⟨q,y,a,b,c⟩=>⟨q,y,a,(f _ _ _).2 (.inl b),c⟩
  exact .inr ⟨q,y,a,(f _ _ _).2 (.inr b),c⟩
 rcases k.wa i l with b|⟨q,y,b,c⟩
 ·exact(h.wa i b).imp id fun ⟨q,y,b,c⟩=>⟨q,y,(f _ _ _).2 (.inl b),c⟩
 exact .inr ⟨q,y,(f _ _ _).2 (.inr b),c⟩
def Tl{E:Df}(g:E.Good)(f:E.I x)(p:Nat):∀(l:List Rd.Hnd),(∀h∈l,h∈E.hs)->∀{s:Bt},E.Ok s->s.sp.length=E.n ->
  Lg E s (Dy E.T E.hi (p:Int) x.locals l s) (fun q y a=>∃h∈l,El h (p:Int)=true/\q=h.target/\y=Gp x h/\a=true)
 | [],_,s,h0,_=>.nil h0 (by rintro q y a ⟨h,m,_⟩;simp at m)
 | h::r,hm,s,h0,hn=>by
  unfold Dy;have i:(Gp x h).locals.length=E.lo/\(∀t∈(Gp x h).locals,Dj E.T E.isN t)/\∀t∈(Gp x h).stack,Dj E.T E.isN t :=
   ⟨f.lo,f.tl,fun t c=>by rw[List.mem_singleton.1 c];exact⟨(g.hnd h (hm h Fr)).2.2.2,fun h=>by simp at h⟩⟩
  have j:Lg E s (if El h (p:Int)=true then Ie E.T E.hi ⟨x.locals,[(3,h.cl)]⟩ h.target s else s) (fun q y a=>El h (p:Int)=true/\q=h.target/\y=Gp x h/\a=true):=by
   split
   ·next hc=>exact .one (W2 g h0 hn i h.target) (fun q y a=>by simp[hc])
   next hc=>exact .nil h0 (by rintro q y a ⟨h,_⟩;exact hc h)
  refine j.trans g h0 (Tl g f p r (fun z v=>hm z (by simp[v])) j.up.ok (j.up.len.trans hn)) ?_ (fun q y a=>?_)
  ·rintro q y a ⟨_,_,rfl,_⟩;exact⟨fun t c=>(i.2.1 t c).1,fun t c=>(i.2.2 t c).1⟩
  constructor
  ·rintro ⟨k,e,b⟩;rcases List.mem_cons.1 e with rfl|e
   ·exact .inl b
   exact .inr ⟨k,e,b⟩
  rintro (b|⟨k,e,b⟩)
  ·exact⟨h,Fr,b⟩
  exact⟨k,by simp[e],b⟩
def Tk{E:Df}(g:E.Good){F:Nat->Option Be}(hF:∀p x,F p=some x->E.I x)(e:E.I x)(p:Nat):∀(l:List Rd.Hnd),(∀h∈l,h∈E.hs) ->
  (∀h∈l,El h (p:Int)=true->∃z,F h.target.toNat=some z/\Ew E.T (Gp x h) z)->∀{s:Bt},E.Ok s->s.sp.length=E.n->Hn E F s->Hn E F (Dy E.T E.hi (p:Int) x.locals l s)
 | [],_,_,s,_,_,hu=>hu
 | h::r,hm,b,s,h0,hn,hu=>by
  unfold Dy;have f:=g.hnd h (hm h Fr);have m:(Gp x h).locals.length=E.lo/\(∀t∈(Gp x h).locals,Dj E.T E.isN t)/\∀t∈(Gp x h).stack,Dj E.T E.isN t :=
   ⟨e.lo,e.tl,fun t q=>by rw[List.mem_singleton.1 q];exact⟨f.2.2.2,fun h=>by simp at h⟩⟩
  by_cases i:El h (p:Int)=true;·rw[Sp i];obtain⟨z,v,A⟩:=b h Fr i;have c:=W2 g h0 hn m h.target;exact Tk g hF e p r (fun z b=>hm z (by simp[b])) (fun z j=>b z (by simp[j])) c.up.ok (c.up.len.trans hn) (Bch g hF h0 hn hu m f.1 f.2.1 v A)
  rw[Pf i];exact Tk g hF e p r (fun z b=>hm z (by simp[b])) (fun z j=>b z (by simp[j])) h0 hn hu
structure Po(E:Df)(bh:Cd.Ins->Be->Option Be)(i:Cd.Ins)(p:Nat):Prop where
 mem:p∈E.ps
 pl:i.place=(p:Int)
 op:i.op=E.op p
 ar:Dx (E.op p)=true->i.n=E.ar p
 rl:∀x,E.I x->bh i x=E.rl p x
def Bkz{E:Df}(g:E.Good){F:Cd.Ins->Be->Option Be}{i:Cd.Ins}(l:Po E F i u)(B:E.I x){Y:Bt}(C:E.Ok Y)(G:Y.sp.length=E.n):Lg E Y (Mj E.T E.hi E.hs F i x Y) (Fc E u x)/\((Mj E.T E.hi E.hs F i x Y).hop=false->∃y,E.rl u x=some y):=by
 have m:=Tl g B u E.hs (fun h b=>b) C G;have O:∀q y a,(∃h∈E.hs,El h (u:Int)=true/\q=h.target/\y=Gp x h/\a=true)->Ey E.T y:=by
  rintro q y a ⟨h,b,j,rfl,rfl,rfl⟩;have:=Bad g l.mem B (.hnd h b j);exact⟨fun t J=>(this.2.1 t J).1,fun t J=>(this.2.2 t J).1⟩
 unfold Mj;rw[l.rl x B,l.pl,l.op];cases A:E.rl u x with
 | none =>
  refine⟨⟨m.up.trans g C (.stop m.up.ok),fun h=>(by cases h),fun i K=>?_,fun i K=>?_⟩,fun h=>(by cases h)⟩
  ·exact(m.st i K).imp id fun ⟨q,y,a,⟨h,b,j,L,N,Q⟩,e⟩=>⟨q,y,a,by subst L N Q;exact .hnd h b j,e⟩
  exact(m.wa i K).imp id fun ⟨q,y,⟨h,b,j,L,N,Q⟩,e⟩=>⟨q,y,by subst L N;exact .hnd h b j,e⟩
 | some y =>
  have D:=g.rl u l.mem x y B A;have V:y.locals.length=E.lo/\(∀t∈y.locals,Dj E.T E.isN t)/\∀t∈y.stack,Dj E.T E.isN t:=⟨D.lo,D.tl,D.ts⟩;have e:Lg E Y (if Dx (E.op u)=true then Ie E.T E.hi y i.n (Dy E.T E.hi (u:Int) x.locals E.hs Y) else Dy E.T E.hi (u:Int) x.locals E.hs Y)
    (fun q z a=>(∃h∈E.hs,El h (u:Int)=true/\q=h.target/\z=Gp x h/\a=true)\/(Dx (E.op u)=true/\q=E.ar u/\z=y/\a=true)):=by
   split
   ·next v =>
    have c:=W2 g m.up.ok (m.up.len.trans G) V i.n;rw[l.ar v]at c ⊢;exact m.trans g C (.one c (R:=fun q z a=>q=E.ar u/\z=y/\a=true) (fun _ _ _=>Iff.rfl)) O (fun q z a=>by simp[v])
   next v =>
   refine⟨m.up,fun h q z a b=>?_,fun i l=>(m.st i l).imp id fun ⟨q,z,a,f,e⟩=>⟨q,z,a,.inl f,e⟩,fun i l=>(m.wa i l).imp id fun ⟨q,z,f,e⟩=>⟨q,z,.inl f,e⟩⟩;rcases b with b|⟨b,_⟩
   ·exact m.told h q z a b
   exact absurd b v
  have Z:∀q z a,((∃h∈E.hs,El h (u:Int)=true/\q=h.target/\z=Gp x h/\a=true)\/(Dx (E.op u)=true/\q=E.ar u/\z=y/\a=true))->Ey E.T z:=by
   rintro q z a (b|⟨_,_,rfl,_⟩)
   ·exact O q z a b
   exact D.arg
  refine⟨?_,fun _=>⟨y,rfl⟩⟩;simp only
  split
  ·next hg =>
   have c:=Uh g e.up.ok (e.up.len.trans G) V ((u:Int)+(Cd.wd (E.op u):Int));refine e.trans g C (.one c (R:=fun q z a=>q=(u:Int)+(Cd.wd (E.op u):Int)/\z=y/\a=false) (fun _ _ _=>Iff.rfl)) Z (fun q z a=>?_)
   constructor
   ·intro h;cases h using Fc.el with
    | hnd h b j=>exact .inl (.inl ⟨h,b,j,rfl,rfl,rfl⟩)
    | jmp z f e=>rw[A]at f;cases f;exact .inl (.inr ⟨e,rfl,rfl,rfl⟩)
    | nxt z f e=>rw[A]at f;cases f;exact .inr ⟨rfl,rfl,rfl⟩
   rintro ((⟨h,b,j,rfl,rfl,rfl⟩|⟨v,rfl,rfl,rfl⟩)|⟨rfl,rfl,rfl⟩)
   ·exact .hnd h b j
   ·exact .jmp _ A v
   exact .nxt _ A hg
  next hg =>
  refine⟨e.up,fun h q z a b=>e.told h q z a ?_,fun i l=>(e.st i l).imp id fun ⟨q,z,a,f,e⟩=>⟨q,z,a,?_,e⟩,fun i l=>(e.wa i l).imp id fun ⟨q,z,f,e⟩=>⟨q,z,?_,e⟩⟩
  ·cases b using Fc.el with
   | hnd h b j=>exact .inl ⟨h,b,j,rfl,rfl,rfl⟩
   | jmp z f e=>rw[A]at f;cases f;exact .inr ⟨e,rfl,rfl,rfl⟩
   | nxt z f e=>exact absurd e hg
  ·rcases f with ⟨h,b,j,rfl,rfl,rfl⟩|⟨v,rfl,rfl,rfl⟩
   ·exact .hnd h b j
   exact .jmp _ A v
  rcases f with ⟨h,b,j,rfl,rfl,_⟩|⟨v,rfl,rfl,_⟩
  ·exact .hnd h b j
  exact .jmp _ A v
def Bky{E:Df}(g:E.Good){F:Nat->Option Be}(hF:Tc E F){bh:Cd.Ins->Be->Option Be}{i:Cd.Ins}(e:Po E bh i u){z:Be}(f:E.I x)(hz:F u=some z)(hl:Ew E.T x z){Y:Bt}(h0:E.Ok Y)(m:Y.sp.length=E.n)(hu:Hn E F Y):Hn E F (Mj E.T E.hi E.hs bh i x Y):=by
 have K:=hF.sat u e.mem z hz;have L:=hF.inv u z hz;have N:∀{q b a},Fc E u x q b a->0<=q/\q<(E.n:Int)/\∃v,F q.toNat=some v/\Ew E.T b v:=by
  intro q b a D;obtain⟨u',A,B⟩:=Bn5 g e.mem f L hl D K.rl;obtain⟨a1,a2,_,⟨v,a3,a4⟩,_⟩:=K.go q u' a A;have ou:=Bad g e.mem f D;have a0:=Bad g e.mem L A;exact⟨a1,a2,v,a3,B.trans g a4 ⟨fun t j=>(ou.2.1 t j).1,fun t j=>(ou.2.2 t j).1⟩ ⟨fun t j=>(a0.2.1 t j).1,fun t j=>(a0.2.2 t j).1⟩ (hF.inv _ _ a3).arg⟩
 have l:=Tl g f u E.hs (fun h C=>C) h0 m;have uH:=Tk g hF.inv f u E.hs (fun h C=>C) (fun h C hc=>(N (.hnd h C hc)).2.2) h0 m hu;obtain⟨zr,a5⟩:=K.rl;obtain⟨y,G,_⟩:=g.mono u e.mem x z zr f L hl a5;have O:=g.rl u e.mem x y f G;have Q:y.locals.length=E.lo/\(∀t∈y.locals,Dj E.T E.isN t)/\∀t∈y.stack,Dj E.T E.isN t:=⟨O.lo,O.tl,O.ts⟩;unfold Mj;rw[e.rl x f,e.pl,e.op,G];simp only;have J:E.Ok (if Dx (E.op u)=true then Ie E.T E.hi y i.n (Dy E.T E.hi (u:Int) x.locals E.hs Y) else Dy E.T E.hi (u:Int) x.locals E.hs Y) /\
   (if Dx (E.op u)=true then Ie E.T E.hi y i.n (Dy E.T E.hi (u:Int) x.locals E.hs Y) else Dy E.T E.hi (u:Int) x.locals E.hs Y).sp.length=E.n /\
   Hn E F (if Dx (E.op u)=true then Ie E.T E.hi y i.n (Dy E.T E.hi (u:Int) x.locals E.hs Y) else Dy E.T E.hi (u:Int) x.locals E.hs Y):=by
  split
  ·next hj =>
   have c:=W2 g l.up.ok (l.up.len.trans m) Q i.n;obtain⟨A,B,v,V,Z⟩:=N (.jmp y G hj);rw[e.ar hj]at c ⊢;exact⟨c.up.ok,c.up.len.trans (l.up.len.trans m),Bch g hF.inv l.up.ok (l.up.len.trans m) uH Q A B V Z⟩
  exact⟨l.up.ok,l.up.len.trans m,uH⟩
 split
 ·next D =>
  obtain⟨A,B,v,V,Z⟩:=N (.nxt y G D);exact Wj g hF.inv J.1 J.2.1 J.2.2 Q A B V Z
 exact J.2.2
structure Zf(E:Df)(s:Bt):Prop where
 ok:E.Ok s
 len:s.sp.length=E.n
 sat:s.hop=false->∀p∈E.ps,(s.at p).st=true->(s.at p).ri=false->(∃y,E.rl p (s.at p).fr=some y)/\∀q y a,Fc E p (s.at p).fr q y a->Tw E s q y a
 pl:∀q,(s.at q).st=true->q∈E.ps
 why:∀q,(s.at q).wa=true->∃p∈E.ps,(s.at p).st=true/\Bc2 E p q
 x0:s.hop=false->∃y,s.F 0=some y/\Ew E.T E.x0 y
abbrev Gx(E:Df)(bh:Cd.Ins->Be->Option Be)(i:Cd.Ins)(x:Be)(s:Bt):Bt:=Mj E.T E.hi E.hs bh i x s
def Buk{E:Df}(g:E.Good){z:Cd.Ins->Be->Option Be}{i:Cd.Ins}(A:Po E z i u){Y:Bt}(h:Zf E Y)(I:(Y.at u).ri=true):Zf E (Gx E z i (Y.at u).fr (Y.calm u)):=by
 have l:u<Y.sp.length:=by rw[h.len];exact g.lt u A.mem
 have J:(Y.at u).st=true:=(h.ok _ (Jf l)).2 I;have hx:=Ov h.ok J;obtain⟨L,c2,_⟩:=Vh (K:=0) h.ok l I;have N:(Y.calm u).sp.length=E.n:=c2.trans h.len;obtain⟨c,O⟩:=Bkz g A hx L N;generalize Q:Gx E z i (Y.at u).fr (Y.calm u)=V at *;change Mj E.T E.hi E.hs z i (Y.at u).fr (Y.calm u)=V at Q;rw[Q]at c O;have m:∀j,((Y.calm u).at j).st=(Y.at j).st:=fun j=>by rw[Vn Y l];split<;>rename_i e<;>simp[e]
 have B:∀j,((Y.calm u).at j).fr=(Y.at j).fr:=fun j=>by rw[Vn Y l];split<;>rename_i e<;>simp[e]
 have Z:∀j,((Y.calm u).at j).wa=(Y.at j).wa:=fun j=>by rw[Vn Y l];split<;>rename_i e<;>simp[e]
 have cF:∀j,(Y.calm u).F j=Y.F j:=fun j=>by unfold Bt.F;rw[m,B]
 have a3:(V.at u).st=true:=(c.up.st u (by rw[m];exact J)).1;refine⟨c.up.ok,c.up.len.trans N,fun f r a0 a4 a5=>?_,fun q C=>?_,fun q C=>?_,fun f=>?_⟩
 ·obtain⟨u1,u2,u3⟩:=c.up.ri r a5;rw[u2,B];by_cases e:r=u;·subst e;exact⟨O f,fun q y a b=>c.told f q y a b⟩
  have D:(Y.calm u).hop=false:=by
   cases e:(Y.calm u).hop with
   | false=>rfl
   | true=>rw[c.up.hop e]at f;cases f
  have rr:(Y.at r).ri=false:=by rw[Vn Y l,Pf e]at u1;exact u1
  have rs:(Y.at r).st=true:=by rw[<- m,<- u3];exact a4
  obtain⟨a1,a2⟩:=h.sat D r a0 rs rr;refine⟨a1,fun q y a b=>?_⟩;have og:=Bad g a0 (Ov h.ok rs) b;have t:=a2 q y a b;have t':Tw E (Y.calm u) q y a:=⟨t.1,t.2.1,t.2.2.1,by rw[cF];exact t.2.2.2.1,by rw[Z];exact t.2.2.2.2⟩;exact t'.up g L c.up ⟨fun t G=>(og.2.1 t G).1,fun t G=>(og.2.2 t G).1⟩
 ·rcases c.st q C with v|⟨q',y,a,b,rfl,a6⟩
  ·rw[m]at v;exact h.pl q v
  exact Bs0 g A.mem b a6
 ·rcases c.wa q C with v|⟨q',y,b,rfl⟩
  ·rw[Z]at v;obtain⟨r,a7,a8,a9⟩:=h.why q v;exact⟨r,a7,(c.up.st r (by rw[m];exact a8)).1,a9⟩
  exact⟨u,A.mem,a3,Bqw b⟩
 have D:(Y.calm u).hop=false:=by
  cases e:(Y.calm u).hop with
  | false=>rfl
  | true=>rw[c.up.hop e]at f;cases f
 obtain⟨y,hy,hl⟩:=h.x0 D;obtain⟨e1,rfl⟩:=Ol.1 hy;obtain⟨k1,k2⟩:=c.up.st 0 (by rw[m];exact e1);rw[B]at k2;exact⟨_,Ol.2 ⟨k1,rfl⟩,hl.trans g k2 g.x0.arg (Ov h.ok e1).arg (Ov c.up.ok k1).arg⟩
def Buj{E:Df}(g:E.Good){F:Nat->Option Be}(hF:Tc E F){f:Cd.Ins->Be->Option Be}{i:Cd.Ins}(l:Po E f i u){Y:Bt}(h:Zf E Y)(m:(Y.at u).ri=true)(c:Hn E F Y):Hn E F (Gx E f i (Y.at u).fr (Y.calm u)):=by
 have b:u<Y.sp.length:=by rw[h.len];exact g.lt u l.mem
 have q:(Y.at u).st=true:=(h.ok _ (Jf b)).2 m;obtain⟨v,A,_⟩:=Vh (K:=0) h.ok b m;obtain⟨z,B,C⟩:=c.2 u q;refine Bky g hF l (Ov h.ok q) B C v (A.trans h.len) ⟨c.1,fun j t=>?_⟩;have D:((Y.calm u).at j).st=(Y.at j).st:=by rw[Vn Y b];split<;>rename_i e<;>simp[e]
 have G:((Y.calm u).at j).fr=(Y.at j).fr:=by rw[Vn Y b];split<;>rename_i e<;>simp[e]
 rw[D]at t;rw[G];exact c.2 j t
def Bm3{E:Df}(g:E.Good){bh:Cd.Ins->Be->Option Be}:∀(L:List Cd.Ins),(∀i∈L,∃p,Po E bh i p)->∀(b:Bool) {s:Bt},Zf E s ->
  Zf E (Ct (Gx E bh) L b s).1/\(∀F,Tc E F->Hn E F s->Hn E F (Ct (Gx E bh) L b s).1) /\
  ((Ct (Gx E bh) L b s).2=false->b=false/\(Ct (Gx E bh) L b s).1=s/\∀i∈L,(s.at i.place.toNat).ri=false)
 | [],_,b,s,h=>⟨h,fun _ _ m=>m,fun f=>⟨f,rfl,fun i D=>by simp at D⟩⟩
 | i::r,hL,b,s,h=>by
  obtain⟨p,j⟩:=hL i Fr;have A:=fun b {s:Bt} h=>Bm3 g (bh:=bh) r (fun z l=>hL z (by simp[l])) b (s:=s) h;have K:p<s.sp.length:=by rw[h.len];exact g.lt p j.mem
  have B:i.place.toNat=p:=by rw[j.pl];simp
  unfold Ct
  split
  ·next c =>
   obtain⟨q,t,v⟩:=A b h;refine⟨q,t,fun f=>?_⟩;obtain⟨G,I,J⟩:=v f;refine⟨G,I,fun z l=>?_⟩;rcases List.mem_cons.1 l with rfl|l
   ·rcases c with c|c
    ·rw[j.pl]at c;omega
    exact c
   exact J z l
  next c =>
  have C:(s.at p).ri=true:=by
   cases e:(s.at p).ri with
   | true=>rfl
   | false=>exact absurd (.inr (by rw[B];exact e)) c
  rw[B];obtain⟨q,t,v⟩:=A true (Buk g j h C);refine⟨q,fun F hF m=>t F hF (Buj g hF j h C m),fun f=>?_⟩;exact absurd (v f).1 Fr
def Bf6{E:Df}(g:E.Good){bh:Cd.Ins->Be->Option Be}(f:∀i∈L,∃p,Po E bh i p)(j:∀i∈L,0<=i.place){K:Nat}(l:∀i∈L,∀x s,E.I x->E.Ok s->Io E.T E.lo E.hi E.isN K s (Gx E bh i x s)) :
  ∀(m:Nat) {s:Bt},Zf E s->Mx E.T K s<m->Zf E (Ku (Gx E bh) L m s)/\(∀F,Tc E F->Hn E F s->Hn E F (Ku (Gx E bh) L m s)) /\
   ((Ku (Gx E bh) L m s).hop=false->∀i∈L,((Ku (Gx E bh) L m s).at i.place.toNat).ri=false)
 | 0,s,_,h=>absurd h Bd
 | m+1,s,h,hm=>by
  obtain⟨q,t,v⟩:=Bm3 g (bh:=bh) L f false h;have z:=Xu (K:=K) L j l false h.ok;unfold Ku
  split
  ·next hc =>
   have:=z.2 hc.1 rfl;obtain⟨A,b,c⟩:=Bf6 g f j l m q Bd;exact⟨A,fun F hF B=>b F hF (t F hF B),c⟩
  next hc =>
  refine⟨q,t,fun C=>?_⟩;have:(Ct (Gx E bh) L false s).2=false:=by
   cases e:(Ct (Gx E bh) L false s).2 with
   | false=>rfl
   | true=>exact absurd ⟨e,C⟩ hc
  obtain⟨_,b,c⟩:=v this;rw[b];exact c
def Nm (E:Df):Bt:=⟨List.replicate E.n Jz,false⟩
def Bac(E:Df)(q:Nat):(Nm E).at q=Jz:=by
 unfold Nm Bt.at;rw[Th,By4]
 split<;>rfl
def Fq (E:Df)(bh:Cd.Ins->Be->Option Be)(L:List Cd.Ins):Bt:=Ye E.T (Rv E.T E.lo E.hi) (Gx E bh) L (D9 E.T E.hi E.x0 0 (Nm E))
def Bdb{E:Df}(g:E.Good){c:Cd.Ins->Be->Option Be}(j:∀i∈L,∃p,Po E c i p):∀i∈L,∀x s,E.I x->E.Ok s->Io E.T E.lo E.hi E.isN (Rv E.T E.lo E.hi) s (Gx E c i x s):=fun i l x s b m=>by
 obtain⟨p,e⟩:=j i l;exact Bsq g.T b (fun h q=>(g.hnd h q).2.2.2) (fun y f=>by rw[e.rl x b]at f;exact g.rl p e.mem x y b f) m
def Bjl(E:Df):E.Ok (Nm E):=fun p b=>by
 have:=List.eq_of_mem_replicate b;subst this;exact⟨fun h=>(by cases h),fun h=>(by cases h)⟩
def Bck{E:Df}(g:E.Good){b:Cd.Ins->Be->Option Be}(D:∀i∈L,∃p,Po E b i p)(Q:∀p∈E.ps,∃i∈L,i.place=(p:Int)):E.Ok (Fq E b L)/\(Fq E b L).sp.length=E.n/\((Fq E b L).hop=false->Tc E (Fq E b L).F/\(∀q,(Fq E b L).F q≠none->q∈E.ps)/\(∀q,((Fq E b L).at q).wa=true<->∃p∈E.ps,(Fq E b L).F p≠none/\Bc2 E p q))/\(∀F,Tc E F->(Fq E b L).hop=false/\∀p x,(Fq E b L).F p=some x->∃y,F p=some y/\Ew E.T x y):=by
 have hz:0<E.n:=g.lt 0 g.zero;have V:=Bjl E;have G:(Nm E).sp.length=E.n:=by simp[Nm]
 have Y:E.x0.locals.length=E.lo/\(∀t∈E.x0.locals,Dj E.T E.isN t)/\∀t∈E.x0.stack,Dj E.T E.isN t:=⟨g.x0.lo,g.x0.tl,g.x0.ts⟩;have c:=Uh g V G Y 0;have J0:Zf E (D9 E.T E.hi E.x0 0 (Nm E)):=by
  refine⟨c.up.ok,c.up.len.trans G,fun l p v hs m=>?_,fun q f=>?_,fun q f=>?_,fun l=>?_⟩
  ·obtain⟨_,_,e⟩:=c.up.ri p m;rw[hs,Bac]at e;cases e
  ·rcases c.st q f with h|⟨rfl,_⟩
   ·rw[Bac]at h;cases h
   exact g.zero
  ·rcases c.wa q f with h|⟨_,h⟩
   ·rw[Bac]at h;cases h
   cases h
  exact(c.told l).2.2.2.1
 have a0:∀i∈L,0<=i.place:=fun i z=>by obtain⟨p,v⟩:=D i z;rw[v.pl];omega
 obtain⟨j,Z,I⟩:=Bf6 g D a0 (Bdb g D) (Mx E.T (Rv E.T E.lo E.hi) (D9 E.T E.hi E.x0 0 (Nm E))+1) J0 Bd;change Zf E (Fq E b L) at j;change ∀F,Tc E F->_->Hn E F (Fq E b L) at Z;change (Fq E b L).hop=false->∀i∈L,((Fq E b L).at i.place.toNat).ri=false at I;refine⟨j.ok,j.len,fun l=>⟨⟨fun p x A=>?_,j.x0 l,fun p v x A=>?_⟩,fun q f=>?_,fun q=>⟨fun f=>?_,?_⟩⟩,fun F hF=>?_⟩
 ·obtain⟨s,rfl⟩:=Ol.1 A;exact Ov j.ok s
 ·obtain⟨s,rfl⟩:=Ol.1 A;obtain⟨i,z,J⟩:=Q p v;have m:=I l i z;rw[J]at m;obtain⟨s1,B⟩:=j.sat l p v s (by simpa using m);exact⟨s1,fun q y a hg=>by obtain⟨t1,t2,t3,t4,_⟩:=B q y a hg;exact⟨t1,t2,t3,t4,fun _=>trivial⟩⟩
 ·cases e:(Fq E b L).F q with
  | none=>exact absurd e f
  | some x=>exact j.pl q (Ol.1 e).1
 ·obtain⟨p,C,K,N⟩:=j.why q f;exact⟨p,C,by rw[Ol.2 ⟨K,rfl⟩];simp,N⟩
 ·rintro ⟨p,C,K,N⟩;have s:((Fq E b L).at p).st=true:=by
   cases e:(Fq E b L).F p with
   | none=>exact absurd e K
   | some x=>exact(Ol.1 e).1
  obtain⟨i,z,J⟩:=Q p C;have m:=I l i z;rw[J]at m;obtain⟨⟨y,O⟩,B⟩:=j.sat l p C s (by simpa using m);rcases N with ⟨h,hm,hc,rfl⟩|⟨hj,rfl⟩
  ·exact(B _ _ _ (.hnd h hm hc)).2.2.2.2 rfl
  exact(B _ _ _ (.jmp y O hj)).2.2.2.2 rfl
 obtain⟨y,O,hl⟩:=hF.x0;have u0:Hn E F (Nm E):=⟨rfl,fun q f=>by rw[Bac]at f;cases f⟩;have u1:=Wj g hF.inv V G u0 Y (q:=0) Bd Bd O hl;have u2:=Z F hF u1;exact⟨u2.1,fun p x A=>by obtain⟨s,rfl⟩:=Ol.1 A;exact u2.2 p s⟩
def Ep (cs:List Rd.Cls)(ms:List Rd.Mth)(m:Rd.Mth):Df :=
 ⟨Tr.tree cs,m.locals.toNat,m.stack,Yj m.code,m.code.length,Cd.places m.code,m.handlers,Fn cs ms m,fun p=>m.code.getD p 0,fun p=>Cd.atI m.code ((p:Int)+1),Fk m⟩
def Ban(c:TI):∀(k e:Nat),c.length<=e+k->∀q∈Cd.starts c k e,q+Cd.wd (c.getD q 0)<c.length->q+Cd.wd (c.getD q 0)∈Cd.starts c k e
 | 0,e,_,q,b,_=>by simp[Cd.starts]at b
 | k+1,e,hk,q,b,hl=>by
  unfold Cd.starts at b ⊢;by_cases f:e<c.length
  ·rw[Sp f]at b ⊢;have g:=Cd.wd_bd (c.getD e 0);rcases List.mem_cons.1 b with rfl|b
   ·refine Bv6 _ ?_;obtain⟨j,rfl⟩:∃j,k=j+1:=⟨k-1,Bd⟩;unfold Cd.starts;rw[Sp hl];exact Bv1 ..
   exact Bv6 _ (Ban c k _ Bd q b hl)
  rw[Pf f]at b;simp at b
def Bap(b:u∈Cd.places z)(e:u+Cd.wd (z.getD u 0)<z.length):u+Cd.wd (z.getD u 0)∈Cd.places z:=Ban z z.length 0 Bd u b e
def Ur(b:u∈Cd.places z):u<z.length:=by
 have e:Cd.begB z (u:Int)=true:=by unfold Cd.begB;rw[By6];exact⟨u,b,Fr⟩
 have:=Pu e;omega
def Xh(h:0<z.length):0∈Cd.places z:=by
 unfold Cd.places;obtain⟨j,b⟩:∃j,z.length=j+1:=⟨z.length-1,Bd⟩;rw[b];unfold Cd.starts;rw[Sp h];exact Bv1 ..
def Bmq{t:List Rd.Cls}{m:List Rd.Mth}(k:Jj t m){F:Rd.Mth}(j:F∈m)(q:u∈Cd.places F.code){y z:Be}(s:J1 (Tr.tree t) F x)(v:J1 (Tr.tree t) F y)(h:Ew (Tr.tree t) x y)(e:Fn t m F u y=some z):∃b,Fn t m F u x=some b/\Ew (Tr.tree t) b z:=by
 have g:=k.mt F j;have A:=X2 g q;unfold Fn at e ⊢;rw[Bc8]at e ⊢;unfold Gt at e ⊢;obtain⟨B,C,f⟩:=Option.bind_eq_some_iff.1 e;obtain⟨b,D,l⟩:=Bkr (want:=Rf.all (Tr.tree t) (Rf.given++t) (Cd.atI F.code ((u:Int)+1)).toNat) k.ok (Nb s) (Nb v) (Bdv k j A) (fun c G=>(Ht (W9 k.fl _ _ c G)).1) h C;by_cases i:(B.stack.length:Int)<=F.stack
 ·rw[Sp i]at f;cases f;refine⟨b,?_,l⟩;rw[D];show (if (b.stack.length:Int)<=F.stack then some b else none)=some b
  rw[Sp (by rw[l.st.len];exact i)]
 rw[Pf i]at f;cases f
def Bg6{c:TI}{h:Rd.Hnd}(b:Cd.hndBad z c h=false):Cd.begB c h.target=true/\Tr.hasB z h.cl=true:=by
 unfold Cd.hndBad at b;simp only[Bxo,Bool.not_eq_eq_eq_not,Bool.not_false]at b;exact⟨b.1.1.1.2,b.1.2⟩
def Wd{t:List Rd.Cls}{m:List Rd.Mth}(k:Jj t m){F:Rd.Mth}(e:F∈m)(q:0<F.code.length):(Ep t m F).Good:=by
 have g:=k.mt F e;refine⟨k.ok,Vj g,fun p b x y f h=>Un k e b f h,fun p b x y z f s h v=>Bmq k e b f s h v,fun p b A=>?_,fun p b B=>?_,fun h C=>?_,Xh q,fun p b=>Ur b⟩
 ·have c:=g.arg p b;unfold Cd.argAt at c;rw[Baa]at c;show 0<=Cd.atI F.code ((p:Int)+1)/\Cd.atI F.code ((p:Int)+1)<(F.code.length:Int)/\(Cd.atI F.code ((p:Int)+1)).toNat∈Cd.places F.code;have l:Dx (F.code.getD p 0)=true:=A;generalize F.code.getD p 0=op at *;unfold Dx at l;have G:op=11\/op=12\/op=13\/op=14:=by simpa using l
  unfold Cd.argB at c;rw[Pf Bd,Sp Bd]at c;have i:=Pu c;have j:=Bbp c;exact⟨Bd,Bd,j⟩
 ·have I:(p:Int)+(Cd.wd (F.code.getD p 0):Int)<(F.code.length:Int):=B;have:=Bap b Bd;show ((p:Int)+(Cd.wd (F.code.getD p 0):Int)).toNat∈Cd.places F.code;rw[show ((p:Int)+(Cd.wd (F.code.getD p 0):Int)).toNat=p+Cd.wd (F.code.getD p 0) by omega];exact this
 obtain⟨i,j⟩:=Bg6 (g.hnd h C);have J:=Pu i;have D:=Bbp i;exact⟨Bd,(by show h.target<(F.code.length:Int);omega),D,Xr (Lr.1 j)⟩
def Bs3{t:List Rd.Cls}{m:List Rd.Mth}(k:Jj t m){F:Rd.Mth}(c:F∈m)(b:u∈Cd.places F.code):Po (Ep t m F) (Dt t m F) (Cd.insAt F.code u) u:=by
 have g:=k.mt F c;obtain⟨l,f⟩:=N2 g.unread u b;refine⟨b,rfl,rfl,fun h=>?_,fun x i=>Ug k c b i⟩;have e:Dx (F.code.getD u 0)=true:=h;have j:Cd.wd (F.code.getD u 0)=2:=by
  generalize F.code.getD u 0=op at *;unfold Dx at e;have q:op=11\/op=12\/op=13\/op=14:=by simpa using e
  unfold Cd.wd;rw[Sp Bd]
 exact(W3 f j).1
def Bb1{m:List Rd.Mth}{F:Rd.Mth}(g:Ra z c m F):Cd.readL F.code=(Cd.places F.code).map (Cd.insAt F.code):=by
 have:=g.unread;unfold Cd.readL;rw[Pf Bd];rfl
def Y0{t:List Rd.Cls}{m:List Rd.Mth}(k:Jj t m){F:Rd.Mth}(c:F∈m):(∀i∈Cd.readL F.code,∃p,Po (Ep t m F) (Dt t m F) i p)/\∀p∈(Ep t m F).ps,∃i∈Cd.readL F.code,i.place=(p:Int):=by
 rw[Bb1 (k.mt F c)]
 constructor
 ·intro i e;obtain⟨p,b,rfl⟩:=List.mem_map.1 e;exact⟨p,Bs3 k c b⟩
 intro p b;exact⟨Cd.insAt F.code p,List.mem_map.2 ⟨p,b,rfl⟩,rfl⟩
def Ja (cs:List Rd.Cls)(ms:List Rd.Mth)(m:Rd.Mth):Bt:=Fq (Ep cs ms m) (Dt cs ms m) (Cd.readL m.code)
def Gw (cs:List Rd.Cls)(ms:List Rd.Mth)(m:Rd.Mth):Option (List Rd.Mp):=if (Ja cs ms m).hop=true then none else some (Fp 0 (Ja cs ms m).sp)
def Rd.Mon{α:Type}(f:Rd.St->α × Rd.St):Prop:=∀t,t.bad=true->(f t).2.bad=true
def Of(s:TB):Rd.Mon (Rd.nx s):=fun t h=>by unfold Rd.nx;rw[Sp h]
def V4(s:TB)(a b:Int):Rd.Mon (Rd.cn s a b):=fun t h=>by
 unfold Rd.cn
 split
 ·rfl
 split
 ·rfl
 exact Of s t h
def Bnc(s:TB):Rd.Mon (Rd.ty s):=fun t h=>Of s _ (Of s t h)
def Tj{α:Type}{f:Rd.St->α×Rd.St}(b:Rd.Mon f):∀(n:Nat) (t:Rd.St),t.bad=true->(Rd.rep f n t).2.bad=true
 | 0,_,h=>h
 | n+1,t,h=>b _ (Tj b n t h)
def Bc9(s:TB)(n:Nat):Rd.Mon (Rd.tys s n):=fun t h=>Tj (Bnc s) n t h
def Bsj(s:TB):Rd.Mon (Rd.hnd s):=fun t h=>Of s _ (Of s _ (Of s _ (Of s t h)))
def Bgs(s:TB):Rd.Mon (Rd.hnds s):=fun t h=>Tj (Bsj s) _ _ (V4 s 0 4 t h)
def Buf(s:TB)(L H:Int):Rd.Mon (Rd.mp s L H):=fun t h=>Bc9 s _ _ (V4 s 0 H _ (Bc9 s _ _ (Of s t h)))
def Bnd(s:TB):Rd.Mon (Rd.codes s):=fun t h=>Tj (Of s) _ _ (V4 s 1 120 t h)
def Bok(s:TB)(t:Rd.St)(h:(Rd.codes s t).2.bad=false):0<(Rd.codes s t).1.length:=by
 unfold Rd.codes at h ⊢;simp only at h ⊢;rw[Rd.rep_len];by_cases b:(Rd.cn s 1 120 t).2.bad=true;·rw[Tj (Of s) _ _ b]at h;cases h
 unfold Rd.cn at b ⊢
 split at b
 ·exact absurd rfl b
 split at b
 ·exact absurd rfl b
 next h1 h2=>rw[Pf h1,Pf h2];omega
def Bjg(s:TB)(L H:Int):Rd.Mon (Rd.mps s L H):=fun t h=>Tj (Buf s L H) _ _ (V4 s 0 64 t h)
def Bda(s:TB):Rd.Mon (Rd.mth s):=fun t h=>by
 unfold Rd.mth;exact Bjg s _ _ _ (Bgs s _ (Bnd s _ (V4 s 0 8 _ (V4 s 0 8 _ (Bnc s _ (Bc9 s _ _ (V4 s 0 4 _ (Of s _ (Of s t h)))))))))
def Bgq(s:TB)(t:Rd.St)(h:(Rd.mth s t).2.bad=false):0<(Rd.mth s t).1.code.length:=by
 unfold Rd.mth at h ⊢;simp only at h ⊢;refine Bok s _ ?_;generalize Rd.codes s _=c at h ⊢;cases b:c.2.bad with
 | false=>rfl
 | true=>rw[Bjg s _ _ _ (Bgs s _ b)]at h;cases h
def Bf8(s:TB):∀(n:Nat) (t:Rd.St),(Rd.rep (Rd.mth s) n t).2.bad=false->∀m∈(Rd.rep (Rd.mth s) n t).1,0<m.code.length
 | 0,_,_,m,b=>by simp[Rd.rep]at b
 | n+1,t,h,m,b=>by
  unfold Rd.rep at h b;simp only at h b;rcases List.mem_append.1 b with b|b
  ·refine Bf8 s n t ?_ m b;cases c:(Rd.rep (Rd.mth s) n t).2.bad with
   | false=>rfl
   | true=>rw[Bda s _ c]at h;cases h
  rw[List.mem_singleton.1 b];exact Bgq s _ h
def Zy(s:TB)(h:(Rd.read s).2=0):∀m∈(Rd.read s).1.methods,0<m.code.length:=by
 unfold Rd.read at h ⊢
 split
 ·simp
 next h1 =>
 rw[Pf h1]at h
 split
 ·simp
 next h2 =>
 rw[Pf h2]at h;simp only[Rd.fil]at h2 ⊢;refine Bf8 s _ _ ?_;generalize (Rd.rep (Rd.mth s) _ _).2=t at *;cases b:t.bad with
 | false=>rfl
 | true=>exact absurd (.inl b) h2
variable {ya:Option Addr}{yn yc:Nat}
def Bo5{α β γ:Type}(f:α->β->γ)(a:List α)(b:List β)(k:Nat)(c:k<a.length)(e:k<b.length):List.zipWith f (a.take (k+1)) (b.take (k+1))=List.zipWith f (a.take k) (b.take k)++[f a[k] b[k]]:=by
 rw[Bvs c,Bvs e,List.zipWith_append Fm];rfl
def Iq{b:TW}{o:Nat}{u0 u1 u2 u3 u4 u5:TX}(e:u<w.heap.size)(f:s<w.heap.size)(g:j<w.heap.size) (h:w.C u 0 u0/\w.C u 1 u1/\w.C s 0 u2/\w.C s 1 u3/\w.C j o u4/\w.C j (o+1) u5)(c:Bl w b):b.C u 0 u0/\b.C u 1 u1/\b.C s 0 u2/\b.C s 1 u3/\b.C j o u4/\b.C j (o+1) u5 :=
 ⟨QC c e h.1,QC c e h.2.1,QC c f h.2.2.1,QC c f h.2.2.2.1,QC c g h.2.2.2.2.1,QC c g h.2.2.2.2.2⟩
def Zo(T:TI)(A I:Nat)(a b:TP)(aa ab:TA)(an ac bn bc:Nat)(w:TW)(hl:T.length<=1000)(hT:Dl w A T)(ha:TyR w (.s aa an ac) a)(hb:TyR w (.s ab bn bc) b)(d3:a.length<=10000)(V:a.length=b.length):Calls prog 219 #[.agg #[.s (.p A) T.length I,.s ya yn yc],.s aa an ac,.s ab bn bc] w fun e m=>∃ja jn jc,e=.r (.s ja jn jc)/\TyR m (.s ja jn jc) (List.zipWith (Tr.joinT T) a b)/\Bl w m:=by
 obtain⟨e1,-,-⟩:=ha.cap;obtain⟨e2,-,-⟩:=hb.cap;subst e1 e2;obtain⟨i0,hi,b7,b8,b9⟩:=Bv4 Tryz.infoType;have a6:Bl w (w.alloc (O2 (.p A) T.length I ya yn yc)):=QN _;have T0:=Bf w (O2 (.p A) T.length I ya yn yc);have c0:=Bc V;clear V;go_in;go_wp2
 go_loopw [7,13] (fun v i wr=>∃k:Nat,k<=a.length/\i=.i (k:Int)/\wr.ownsRow (w.heap.size+1) 31 2 v k (Bu (List.zipWith (Tr.joinT T) (a.take k) (b.take k)))/\Bl w wr/\wr.heap[w.heap.size]?=some (O2 (.p A) T.length I ya yn yc))
  (fun _ i _=>a.length-(intOf i).toNat)
 case atStart=>exact⟨0,Bd,rfl,Bvl _ _ _ _,a6,T0⟩
 case round=>
  clear a6 T0;obtain⟨k,hk,rfl,Y,B,N⟩:=hrel;have O:=B.size;have V:=Ba c0;obtain⟨ua,uc,rfl⟩:=Bg Y;by_cases a7:k<a.length
  ·have a8:k<b.length:=Bd;obtain⟨g,o,rfl,hg,a9⟩:=(ha.below B).at Bd;obtain⟨g2,L,rfl,a2,b0⟩:=(hb.below B).at Bd;obtain⟨x0,x1⟩:=a9 k a7;obtain⟨y0,y1⟩:=b0 k a8;have hd:=Bo5 (Tr.joinT T) a b k a7 a8;generalize a[k]=s at *;generalize b[k]=t at *;obtain⟨c,f⟩:=s;obtain⟨Z,t2⟩:=t;simp only at x0 x1 y0 y1;have f0:(wr.alloc (O7 c f)).C w.heap.size 0 (.s (.p A) T.length I):=(Bb (Bk N (O7 c f)) 0).trans rfl;have f1:(wr.alloc (O7 c f)).C w.heap.size 1 (.s ya yn yc):=(Bb (Bk N (O7 c f)) 1).trans rfl;have p0:(wr.alloc (O7 c f)).C wr.heap.size 0 (.i c):=(Bb (Bf wr (O7 c f)) 0).trans rfl;have p1:(wr.alloc (O7 c f)).C wr.heap.size 1 (.i f):=(Bb (Bf wr (O7 c f)) 1).trans rfl;have z0:=(Bwg wr (O7 c f) ⟨g2,L+k*2,none⟩ a2).trans y0;have z1:=(Bwg wr (O7 c f) ⟨g2,L+k*2+1,none⟩ a2).trans y1;have D:=Pk (Bk N (O7 c f));have F:=Pk (Bf wr (O7 c f));have G:g2<(wr.alloc (O7 c f)).heap.size:=Fm;have b1:=(B.alloc O (O7 c f)).drew;have hc:=fun m (h:Bl w m)=>Bmg (ya:=ya) (yn:=yn) (yc:=yc) T A I c f Z t2 m hl (hT.below h);generalize Tr.joinT T (c,f) (Z,t2)=j at *;obtain⟨j1,j2⟩:=j;simp only at hc;have HC:=Bc hc;have HD:=Bc hd;have kb:(k:Int)<(a.length:Int):=Bd;have d4:(k:Int)<(b.length:Int):=Bd;have a3:Bl wr (wr.alloc (O7 c f)).drew:=((Vm _ wr).alloc (Wf _) _).drew;have J:(wr.alloc (O7 c f)).drew.C w.heap.size 0 (.s (.p A) T.length I)/\(wr.alloc (O7 c f)).drew.C w.heap.size 1 (.s ya yn yc)/\(wr.alloc (O7 c f)).drew.C wr.heap.size 0 (.i c)/\(wr.alloc (O7 c f)).drew.C wr.heap.size 1 (.i f)/\(wr.alloc (O7 c f)).drew.C g2 (L+k*2) (.i Z)/\(wr.alloc (O7 c f)).drew.C g2 (L+k*2+1) (.i t2):=⟨f0,f1,p0,p1,z0,z1⟩;have Z0:((wr.alloc (O7 c f)).alloc (O7 0 0)).drew.heap[wr.heap.size+1]?=some (O7 0 0):=Bv wr (O7 c f) (O7 0 0);have K:Bl (wr.alloc (O7 c f)).drew ((wr.alloc (O7 c f)).alloc (O7 0 0)).drew:=⟨rfl,rfl,rfl,by simp[World.drew],fun k hk=>(((Vm _ (wr.alloc (O7 c f))).alloc (Wf _) (O7 0 0)).block k hk)⟩;have lZ:(wr.alloc (O7 c f)).drew.heap.size<=((wr.alloc (O7 c f)).alloc (O7 0 0)).drew.heap.size:=K.size;have b2:Bl w ((wr.alloc (O7 c f)).alloc (O7 0 0)).drew:=((B.alloc O (O7 c f)).alloc (B.alloc O (O7 c f)).size (O7 0 0)).drew;replace D:w.heap.size<(wr.alloc (O7 c f)).drew.heap.size:=D;replace F:wr.heap.size<(wr.alloc (O7 c f)).drew.heap.size:=F;replace G:g2<(wr.alloc (O7 c f)).drew.heap.size:=G;clear a9 b0 hc V hd
   go_upto_region 6 with fail
   go_cut [10] from 14 to 33 (fun c6 wx=>∃jb,c6=.q jb 0/\wx.heap[jb]?=some (O7 j1 j2)/\Bl wr wx)
   case first=>
    go_wp2
    go_region_held3 (fun m=>m.C w.heap.size 0 (.s (.p A) T.length I)/\m.C w.heap.size 1 (.s ya yn yc)/\m.C wr.heap.size 0 (.i c)/\m.C wr.heap.size 1 (.i f)/\m.C g2 (L+k*2) (.i Z)/\m.C g2 (L+k*2+1) (.i t2))
     (first|(with_reducible exact J)|(with_reducible exact Iq D F G J z)|(with_reducible exact Iq D F G J (z.alloc z.size _))|(with_reducible exact Iq D F G J K)|(with_reducible exact Iq D F G J (K.trans (z.mono lZ)))|(with_reducible exact Iq D F G J ((K.trans (z.mono lZ)).setCell Fr _))|(with_reducible exact Iq D F G J (((K.trans (z.mono lZ)).setCell Fr _).setCell Fr _)))
     (first|(go_at_call 179;refine Qm (Ba HC _ (by first|(with_reducible exact b1)|(with_reducible exact b2))) ?_;intro w7 z;try (have Q:=stay z Z0;have c7:=Bb Q 0;have c8:=Bb Q 1;have d5:=Bj Q 0;have d6:=Bj Q 1;simp at c7 c8)))
    all_goals
     go_wp2
     go_meet
    ·exact⟨_,rfl,Bf w7 _,a3.trans ((z.mono (by simp[World.drew])).alloc (Bvv (by simp[World.drew]) z.size) _)⟩
    exact⟨_,rfl,Rp Q _ _,(((a3.trans (K.mono (by simp[World.drew]))).trans (z.mono (by simp[World.drew];omega))).setCell Fr _).setCell Fr _⟩
   case rest=>
    obtain⟨jb,rfl,JB,a0⟩:=hcut;have a4:=B.trans (a0.mono O);have c9:=a4.size;have b3:=stay a0 N;have a1:=Cx Y (Kp.of_below (e:=none) a0) Ck;have j0:=Bb JB 0;have b4:=Bb JB 1;have lJ:=Pk JB;simp at j0 b4;clear a0 Y B O N f0 f1 p0 p1 z0 z1 J D F G Z0 K lZ b2 b1 a3 x0 x1 y0 y1 hg a2;go_wp2_with (at_builtin;refine Bvw _ rfl _ _ 105 rfl (w.heap.size+1) 31 i0 _ 2 16 Bwq hi b7 b8 b9 rfl Ck _ _ _ rfl (a1.alloc _) ⟨wc.heap.size,0,none⟩ 1 1 [.i j1,.i j2] rfl rfl ?c1 ?c2 ?c3 ?c4 ?c5 ?_)
    case c1=>exact Dv _ _ _ _ rfl
    case c2=>intro u hu;simp at hu;rcases hu with rfl|rfl<;>rfl
    case c3=>unfold maxLen;omega
    case c4=>omega
    case c5=>simp;omega
    intro v' w2 b5 a5 _;have d0:=(a4.alloc c9 (O7 j1 j2)).grown a5 Fm (fun j hj=>by have:=(a1.lt j hj).1;omega);have d1:=(a5.block _ Fm (fun hh=>by have:=(a1.lt _ hh.symm).1;omega)).trans (Bk b3 (O7 j1 j2));have d2:w2.ownsRow (w.heap.size+1) 31 2 v' (k+1) (Bu (List.zipWith (Tr.joinT T) (a.take (k+1)) (b.take (k+1)))):=by rw[Ba HD,Ml];exact b5
    clear a5 b5 a1 b3 a4 JB j0 b4;go_wp2;go_roundw
    case rel=>exact⟨k+1,Bd,Lt,d2,d0,d1⟩
    case measure=>simp[intOf];omega
  have kb:¬(k:Int)<(a.length:Int):=Bd;have ek:k=a.length:=Bd;have b6:=Bc ek;clear ek;go_wp2;go_ret;refine⟨ua,k,uc,rfl,?_,B⟩;have:=Sc (l:=List.zipWith (Tr.joinT T) (a.take k) (b.take k)) (n:=k) Y Fm
  rwa [Bv0 (by have:=Ba b6;omega),Bv0 (by have:=Ba b6;omega)]at this
def Bm1(T:TI)(q C:Nat)(u v:FrV)(x y:Be)(w:TW)(Q:T.length<=1000)(V:Dl w q T)(c:u.is x w)(D:v.is y w):Calls prog 168 #[u.val,.agg #[.s (.p q) T.length C,.s ya yn yc],v.val] w fun e f=>∃z:FrV,e=.r (.tuple #[z.val,.bool (decide (x.locals.length=y.locals.length/\x.stack.length=y.stack.length))])/\((x.locals.length=y.locals.length/\x.stack.length=y.stack.length)->z.is (Lv T x y) f)/\Bl w f:=by
 have L:=fun f (h:Bl w f) N=>Zo (ya:=ya) (yn:=yn) (yc:=yc) T q C x.locals y.locals u.la v.la u.ln u.lc v.ln v.lc f Q (V.below h) (c.lo.below h) (D.lo.below h) (by have:=c.hl;omega) N;have O:=fun f (h:Bl w f) N=>Zo (ya:=ya) (yn:=yn) (yc:=yc) T q C x.stack y.stack u.sa v.sa u.sn u.sc v.sn v.sc f Q (V.below h) (c.st.below h) (D.st.below h) (by have:=c.hs;omega) N;have a6:=c.hl;have a7:=c.hs;obtain⟨Y,ln,Z,sa,sn,sc⟩:=u;obtain⟨a0,b6,a2,a3,b7,a4⟩:=v;obtain⟨e1,-,-⟩:=c.lo.cap;obtain⟨e2,-,-⟩:=c.st.cap;obtain⟨e3,-,-⟩:=D.lo.cap;obtain⟨e4,-,-⟩:=D.st.cap;simp only[FrV.val]at L O e1 e2 e3 e4 ⊢;subst e1 e2 e3 e4;have H1:=Bc L;have H2:=Bc O;clear L O c D;obtain⟨t,F⟩:=x;obtain⟨A,G⟩:=y;simp only at H1 H2 a6 a7 ⊢;have J:=Mq w (O24 Y t.length Z sa F.length sc) (O2 (.p q) T.length C ya yn yc) (O24 a0 A.length a2 a3 G.length a4) (O24 none 0 0 none 0 0);obtain⟨A0,T0,B0,j⟩:=J2 w (O24 Y t.length Z sa F.length sc) (O2 (.p q) T.length C ya yn yc) (O24 a0 A.length a2 a3 G.length a4) (O24 none 0 0 none 0 0);by_cases b:t.length=A.length
 ·by_cases l:F.length=G.length
  ·rw[Bxp ⟨b,l⟩];have n1:((t.length:Int) != (A.length:Int))=false:=by simp[b]
   have n2:((F.length:Int) != (G.length:Int))=false:=by simp[l]
   have a8:=Bc (Ba H1 _ J b);have B:=Bc l;have a9:=Bc b;clear b l;go_in;go_wp2_with fail;refine(Ba a8).mono ?_;rintro e w1 ⟨ja,jn,jc,rfl,b0,m⟩;have a5:=QB J m;have a1:=Bb (stay m A0) 1;have t0:=Bb (stay m T0) 0;have t1:=Bb (stay m T0) 1;have b1:=Bb (stay m B0) 1;have Z1:=stay m j;simp at a1 t0 t1 b1;have b2:=Bc (Ba H2 _ a5 (Ba B));clear m;go_wp2_with fail;refine(Ba b2).mono ?_;rintro e w2 ⟨ka,kn,kc,rfl,b3,K⟩;have b4:=QB a5 K;have I:=stay K Z1;obtain⟨g,i⟩:=cl2 I;obtain⟨q0,q1⟩:=fr2 I;have lZ:=Pk I;simp at g i;have b5:=b0.below K;clear K;go_wp2;refine tb (.tuple #[.agg #[.s ja jn jc,.s ka kn kc],.bool true]) (by simp[results,B0h,go_sem,g,i]) ?_;refine⟨⟨ja,jn,jc,ka,kn,kc⟩,rfl,fun _=>⟨b5.set_frame I _ _,b3.set_frame I _ _,?_,?_⟩,(b4.setCell Fm _).setCell Fm _⟩
   ·have:=Ba a9;simp[Lv];omega
   have:=Ba B;simp[Lv];omega
  rw[Bwx (fun h=>l h.2)];have n1:((t.length:Int) != (A.length:Int))=false:=by simp[b]
  have n2:((F.length:Int) != (G.length:Int))=true:=Fm;obtain⟨g,i⟩:=cl2 j;obtain⟨q0,q1⟩:=fr2 j;have lZ:=Pk j;simp at g i;have B:=Bc l;clear b l;go_in;go_wp2;refine tb (.tuple #[.agg #[.s none 0 0,.s none 0 0],.bool false]) (by simp[results,B0h,go_sem,g,i]) ?_;exact⟨⟨none,0,0,none,0,0⟩,rfl,fun h=>absurd h.2 (Ba B),J⟩
 rw[Bwx (fun h=>b h.1)];have n1:((t.length:Int) != (A.length:Int))=true:=Fm;obtain⟨g,i⟩:=cl2 j;obtain⟨q0,q1⟩:=fr2 j;have lZ:=Pk j;simp at g i;have B:=Bc b;clear b;go_in;go_wp2;refine tb (.tuple #[.agg #[.s none 0 0,.s none 0 0],.bool false]) (by simp[results,B0h,go_sem,g,i]) ?_;exact⟨⟨none,0,0,none,0,0⟩,rfl,fun h=>absurd h.1 (Ba B),J⟩
structure Lw(S G:Nat)(w w':World):Prop where
 os:w'.os=w.os
 tape:w'.tape=w.tape
 output:w'.output=w.output
 size:w.heap.size<=w'.heap.size
 block:∀k,k<w.heap.size->k≠S->k≠G->w'.heap[k]?=w.heap[k]?
 tys:∀(k:Nat) (cs:Array Value),w.heap[k]?=some (.cells cs 31 (0,0))->w'.heap[k]?=some (.cells cs 31 (0,0))
def Btl(S G:Nat)(w:TW):Lw S G w w:=⟨rfl,rfl,rfl,Wf _,fun _ _ _ _=>rfl,fun _ _ h=>h⟩
def Lw.trans{S:Nat}{a b c:TW}(h:Lw S s a b)(k:Lw S s b c):Lw S s a c :=
 ⟨k.os.trans h.os,k.tape.trans h.tape,k.output.trans h.output,Bvv h.size k.size,fun i e f g=>(k.block i (Bvm e h.size) f g).trans (h.block i e f g),fun p n j=>k.tys p n (h.tys p n j)⟩
def Dd{S G:Nat}{b:TW}(h:Bl w b):Lw S G w b :=
 ⟨h.os,h.tape,h.output,h.size,fun k e _ _=>h.block k e,fun p n c=>(h.block p (Pk c)).trans c⟩
def Lw.below{S:Nat}{b:TW}(h:Lw S s w b)(c:j<=S)(e:j<=s)(f:j<=w.heap.size):Below j w b:=⟨h.os,h.tape,h.output,h.size,fun k g=>h.block k Bd Bd Bd⟩
def Bo2{S:Nat}{p:Addr}{G:Array Value}{g:TypeId}(c:p.block=S\/p.block=s)(f:w.heap[p.block]?=some (.cells G g (0,0)))(i:g≠31)(u:TX):Lw S s w (w.setCell p u) :=
 ⟨rfl,rfl,rfl,by simp[World.setCell],fun k _ l m=>Bvg _ _ _ _ (by rcases c with h|h<;>rw[h]<;>assumption),fun q t b=>by
  have j:q≠p.block:=by
   intro e;subst e;rw[f]at b;simp only[Option.some.injEq,Obj.cells.injEq]at b;exact i b.2.1
  exact(Bvg _ _ _ _ j).trans b⟩
def TyR.lw{S:Nat}{b:TW}{i:TX}{q:TP}(h:TyR w i q)(k:Lw S s w b):TyR b i q:=by
 rcases h with h|⟨g,o,c,e,m,f,p,t,z⟩
 ·exact .inl h
 refine .inr ⟨g,o,c,e,m,k.tys g e f,p,t,fun j x A=>?_⟩;rw[Bb (k.tys g e f),<- Bb f];exact z j x A
def FrV.is.lw{S:Nat}{v:FrV}{b:TW}(h:v.is x w)(k:Lw S s w b):v.is x b:=⟨h.lo.lw k,h.st.lw k,h.hl,h.hs⟩
structure SpC(cs:Array Value)(i:Nat)(v:FrV)(p:Od):Prop where
 c0:cs[i*5]?=some (.slice v.la v.ln v.lc)
 c1:cs[i*5+1]?=some (.slice v.sa v.sn v.sc)
 c2:cs[i*5+2]?=some (.bool p.st)
 c3:cs[i*5+3]?=some (.bool p.ri)
 c4:cs[i*5+4]?=some (.bool p.wa)
structure Ed(w:World)(S G:Nat)(b:PBd)(gc:Nat)(s:Bt):Prop where
 blk:w.heap[S]?=some (O27 (some ⟨b.tg,0,none⟩) b.T.length b.tc b.ya b.yn b.yc b.cl b.nm b.pa b.pl b.pc b.r1 b.r2 b.lo b.st b.ca b.cn b.cc b.ha b.hl b.hc b.ma b.ml b.mc b.la b.L.length b.lc b.fa1 b.fl1 b.fc1 b.fa2 b.fl2 b.fc2 (some ⟨b.tg,0,none⟩) b.T.length b.tc b.ya b.yn b.yc b.cl b.nm b.pa b.pl b.pc b.r1 b.r2 b.lo b.st b.ca b.cn b.cc b.ha b.hl b.hc b.ma b.ml b.mc b.la b.L.length b.lc (some ⟨G,0,none⟩) s.sp.length gc s.hop)
 spt:∃cs,w.heap[G]?=some (.cells cs 260 (0,0))/\cs.size=s.sp.length*5/\∀i,i<s.sp.length->∃v:FrV,SpC cs i v (s.at i)/\v.is (s.at i).fr w
 ne:S≠G
 len:s.sp.length<=1000
 cap:s.sp.length<=gc/\gc<=1000
def Ed.below{b:TW}{S:Nat}{e:PBd}{Y:Bt}(h:Ed w S s e j Y)(f:Bl w b):Ed b S s e j Y:=by
 obtain⟨g,l,m,p⟩:=h.spt;exact⟨stay f h.blk,⟨g,stay f l,m,fun i q=>by obtain⟨v,a,c⟩:=p i q;exact⟨v,a,c.below f⟩⟩,h.ne,h.len,h.cap⟩
theorem Ed.at{w:World}{S:Nat}{Y:Bt}(h:Ed w S s b j Y){i:Nat}(f:i<Y.sp.length):∃v:FrV,v.is (Y.at i).fr w/\w.cell? ⟨s,i*5,none⟩=some (.slice v.la v.ln v.lc)/\w.cell? ⟨s,i*5+1,none⟩=some (.slice v.sa v.sn v.sc)/\w.cell? ⟨s,i*5+2,none⟩=some (.bool (Y.at i).st)/\w.cell? ⟨s,i*5+3,none⟩=some (.bool (Y.at i).ri)/\w.cell? ⟨s,i*5+4,none⟩=some (.bool (Y.at i).wa):=by
 obtain⟨l,e,m,g⟩:=h.spt;obtain⟨v,a,c⟩:=g i f;exact⟨v,c,by rw[Bb e];exact a.c0,by rw[Bb e];exact a.c1,by rw[Bb e];exact a.c2,by rw[Bb e];exact a.c3,by rw[Bb e];exact a.c4⟩
def Ed.stop{S:Nat}{Y:Bt}(h:Ed w S s b j Y):Ed (w.setCell (.a S 29) (.bool true)) S s b j Y.stop/\Lw S s w (w.setCell (.a S 29) (.bool true)):=by
 have k:Lw S s w (w.setCell (.a S 29) (.bool true)):=Bo2 (p:=.a S 29) (.inl rfl) h.blk Ck _;obtain⟨f,g,l,m⟩:=h.spt;refine⟨⟨?_,⟨f,?_,l,fun i q=>?_⟩,h.ne,h.len,h.cap⟩,k⟩
 ·rw[Bq h.blk];rfl
 ·exact(Bvg _ _ _ _ (fun e=>h.ne e.symm)).trans g
 obtain⟨v,a,c⟩:=m i q;exact⟨v,a,c.lw k⟩
def Xq(s:Bt)(q:Nat)(p:Od)(b:q<s.sp.length)(c:Bool)(i:Nat):(⟨s.sp.set q p,c⟩:Bt).at i=if i=q then p else s.at i:=by
 unfold Bt.at;simp only[Th,Bxi];by_cases e:q=i;·subst e;simp[b]
 rw[Pf e,Pf (fun h=>e h.symm)]
def Ed.set{S:Nat}{l:Nat}{Y:Bt}(h:Ed w S s b l Y)(m:q<Y.sp.length)(I:j<5)(u:TX)(p:Od) (C:∀f v,SpC f q v (Y.at q)->f.size=Y.sp.length*5->v.is (Y.at q).fr w->∃g,SpC (f.setIfInBounds (q*5+j) u) q g p/\(g.is p.fr w)):Ed (w.setCell (.a s (q*5+j)) u) S s b l ⟨Y.sp.set q p,Y.hop⟩/\Lw S s w (w.setCell (.a s (q*5+j)) u):=by
 obtain⟨f,t,z,A⟩:=h.spt;have k:Lw S s w (w.setCell (.a s (q*5+j)) u):=Bo2 (p:=.a s (q*5+j)) (.inr rfl) t Ck _;refine⟨⟨?_,⟨_,Bq t u,by simpa using z,fun i B=>?_⟩,h.ne,by simpa using h.len,by simpa using h.cap⟩,k⟩
 ·refine(Bvg _ _ _ _ (fun e=>h.ne e)).trans ?_;simpa using h.blk
 simp only[Bv7]at B;rw[Xq Y q p m];by_cases e:i=q;·subst e;rw[Sp rfl];obtain⟨v,a,c⟩:=A i m;obtain⟨g,D,F⟩:=C f v a z c;exact⟨g,D,F.lw k⟩
 rw[Pf e];obtain⟨v,a,c⟩:=A i B;refine⟨v,⟨?_,?_,?_,?_,?_⟩,c.lw k⟩
 all_goals rw[By7 Bd]
 ·exact a.c0
 ·exact a.c1
 ·exact a.c2
 ·exact a.c3
 exact a.c4
def Vw{G:Array Value}(h:u<G.size)(b:TX):(G.setIfInBounds u b)[u]?=some b:=by rw[Array.getElem?_setIfInBounds_self,Sp h]
def Jb{G:Array Value}{k:Nat}(h:u≠k)(b:TX):(G.setIfInBounds u b)[k]?=G[k]?:=By7 h
def Ed.st{S:Nat}{Y:Bt}(h:Ed w S s b j Y)(e:q<Y.sp.length)(t:Bool):Ed (w.setCell (.a s (q*5+2)) (.bool t)) S s b j ⟨Y.sp.set q ⟨(Y.at q).fr,t,(Y.at q).ri,(Y.at q).wa⟩,Y.hop⟩/\Lw S s w (w.setCell (.a s (q*5+2)) (.bool t)) :=
 h.set e Bd _ _ fun f v a g c=>⟨v,⟨by rw[Jb Bd];exact a.c0,by rw[Jb Bd];exact a.c1,Vw Bd _,by rw[Jb Bd];exact a.c3,by rw[Jb Bd];exact a.c4⟩,c⟩
def Ed.ri{S:Nat}{Y:Bt}(h:Ed w S s b j Y)(e:q<Y.sp.length)(t:Bool):Ed (w.setCell (.a s (q*5+3)) (.bool t)) S s b j ⟨Y.sp.set q ⟨(Y.at q).fr,(Y.at q).st,t,(Y.at q).wa⟩,Y.hop⟩/\Lw S s w (w.setCell (.a s (q*5+3)) (.bool t)) :=
 h.set e Bd _ _ fun f v a g c=>⟨v,⟨by rw[Jb Bd];exact a.c0,by rw[Jb Bd];exact a.c1,by rw[Jb Bd];exact a.c2,Vw Bd _,by rw[Jb Bd];exact a.c4⟩,c⟩
def Ed.wa{S:Nat}{Y:Bt}(h:Ed w S s b j Y)(e:q<Y.sp.length)(t:Bool):Ed (w.setCell (.a s (q*5+4)) (.bool t)) S s b j ⟨Y.sp.set q ⟨(Y.at q).fr,(Y.at q).st,(Y.at q).ri,t⟩,Y.hop⟩/\Lw S s w (w.setCell (.a s (q*5+4)) (.bool t)) :=
 h.set e Bd _ _ fun f v a g c=>⟨v,⟨by rw[Jb Bd];exact a.c0,by rw[Jb Bd];exact a.c1,by rw[Jb Bd];exact a.c2,by rw[Jb Bd];exact a.c3,Vw Bd _⟩,c⟩
def Ed.fr{S:Nat}{i:Nat}{Y:Bt}(h:Ed w S s b i Y)(f:q<Y.sp.length){u:FrV}{y:Be}(g:u.is y w):Ed ((w.setCell (.a s (q*5)) (.s u.la u.ln u.lc)).setCell (.a s (q*5+1)) (.s u.sa u.sn u.sc)) S s b i ⟨Y.sp.set q ⟨y,(Y.at q).st,(Y.at q).ri,(Y.at q).wa⟩,Y.hop⟩/\Lw S s w ((w.setCell (.a s (q*5)) (.s u.la u.ln u.lc)).setCell (.a s (q*5+1)) (.s u.sa u.sn u.sc)):=by
 obtain⟨t,l⟩:=h.set (j:=0) f Bd (.s u.la u.ln u.lc) ⟨⟨y.locals,(Y.at q).fr.stack⟩,(Y.at q).st,(Y.at q).ri,(Y.at q).wa⟩ fun z v a m c =>
  ⟨⟨u.la,u.ln,u.lc,v.sa,v.sn,v.sc⟩,⟨Vw Bd _,by rw[Jb Bd];exact a.c1,by rw[Jb Bd];exact a.c2,by rw[Jb Bd];exact a.c3,by rw[Jb Bd];exact a.c4⟩,⟨g.lo,c.st,g.hl,c.hs⟩⟩
 have e:=Xq Y q ⟨⟨y.locals,(Y.at q).fr.stack⟩,(Y.at q).st,(Y.at q).ri,(Y.at q).wa⟩ f Y.hop q;rw[Sp rfl]at e;have p:=g.lw l;obtain⟨g2,A⟩:=t.set (j:=1) (q:=q) (by simpa using f) Bd (.s u.sa u.sn u.sc) ⟨y,(Y.at q).st,(Y.at q).ri,(Y.at q).wa⟩ fun z v a m c=>by
  rw[e]at a c;simp only[Bv7]at m;exact⟨⟨v.la,v.ln,v.lc,u.sa,u.sn,u.sc⟩,⟨by rw[Jb Bd];exact a.c0,Vw Bd _,by rw[Jb Bd];exact a.c2,by rw[Jb Bd];exact a.c3,by rw[Jb Bd];exact a.c4⟩,⟨c.lo,p.st,c.hl,p.hs⟩⟩
 simp only[Bzf]at g2;exact⟨g2,l.trans A⟩
def Ed.put2{S:Nat}{Y:Bt}{y:Be}(c:q<Y.sp.length)(g:Ed w S s b j ⟨Y.sp.set q ⟨y,(Y.at q).st,(Y.at q).ri,(Y.at q).wa⟩,Y.hop⟩):Ed ((w.setCell (.a s (q*5+2)) (.bool true)).setCell (.a s (q*5+3)) (.bool true)) S s b j (Y.put q y)/\Lw S s w ((w.setCell (.a s (q*5+2)) (.bool true)).setCell (.a s (q*5+3)) (.bool true)):=by
 obtain⟨g2,h⟩:=g.st (q:=q) (by simpa using c) true;have e:=Xq Y q ⟨y,(Y.at q).st,(Y.at q).ri,(Y.at q).wa⟩ c Y.hop q;rw[Sp rfl]at e;rw[e]at g2;simp only[Bzf]at g2;obtain⟨g3,i⟩:=g2.ri (q:=q) (by simpa using c) true;have f:=Xq Y q ⟨y,true,(Y.at q).ri,(Y.at q).wa⟩ c Y.hop q;rw[Sp rfl]at f;rw[f]at g3;simp only[Bzf]at g3;exact⟨g3,h.trans i⟩
def Ed.free{S:Nat}{Y:Bt}(h:Ed w S s b j Y)(i:Nat):w.frozen? (.a s i)=false/\s<w.heap.size:=by
 obtain⟨e,c,_⟩:=h.spt;exact⟨Bj c i,Pk c⟩
def Ed.put1{S:Nat}{Y:Bt}{K:Nat}{y:Be}(e:K<Y.sp.length)(c:Ed w S s b j ⟨Y.sp.set K ⟨y,(Y.at K).st,(Y.at K).ri,(Y.at K).wa⟩,Y.hop⟩):w.C S 28 (.s (.p s) Y.sp.length j)/\S<w.heap.size/\w.C s (K*5+2) (.bool (Y.at K).st)/\w.C s (K*5+3) (.bool (Y.at K).ri)/\w.frozen? (.a s (K*5+2))=false/\w.frozen? (.a s (K*5+3))=false/\s<w.heap.size:=by
 obtain⟨u,_,_,_,f,g,_⟩:=c.at (i:=K) (by simpa using e);rw[Xq Y K _ e,Sp rfl]at f g;have h:=Bb c.blk 28;simp at h;exact⟨h,Pk c.blk,f,g,(c.free _).1,(c.free _).1,(c.free 0).2⟩
def Ed.box{S:Nat}{Y:Bt}(h:Ed w S s b j Y){g:Nat}{l f:TA}{m p t:Nat}{ty:TypeId}(z:w.heap[g]?=some (.cells #[.s l m p,.s f q t] ty (0,0)))(A:g≠S)(B:g≠s)(x y:TX):Ed ((w.setCell (.a g 0) x).setCell (.a g 1) y) S s b j Y:=by
 obtain⟨C,D,F,I⟩:=h.spt;exact⟨(On (fun e=>A e.symm)).trans h.blk,⟨C,(On (fun e=>B e.symm)).trans D,F,fun i J=>by obtain⟨v,a,c⟩:=I i J;exact⟨v,a,c.set2 z _ _⟩⟩,h.ne,h.len,h.cap⟩
def Lw.box{S:Nat}{b:TW}(h:Lw S s w b){g:Nat}(l:w.heap.size<=g)(x y:TX):Lw S s w ((b.setCell (.a g 0) x).setCell (.a g 1) y) :=
 ⟨h.os,h.tape,h.output,by have:=h.size;simpa[World.setCell] using this,fun k e f i=>(On Bd).trans (h.block k e f i),fun p j c=>by
  have:=Pk c;exact(On Bd).trans (h.tys p j c)⟩
def Za(b:PBd)(S G gc:Nat)(s:Bt)(v:FrV)(x:Be)(q:Int)(w:TW)(hl:b.T.length<=1000)(hT:Dl w b.tg b.T)(h:Ed w S G b gc s)(hv:v.is x w):Calls prog 111 #[.q S 0,v.val,.i q] w fun e A=>e=.r (.tuple #[])/\Ed A S G b gc (D9 b.T b.st x q s)/\Lw S G w A:=by
 obtain⟨j,ln,l,m,sn,t⟩:=v;obtain⟨d6,-,-⟩:=hv.st.cap;obtain⟨d7,-,-⟩:=hv.lo.cap;obtain⟨f,c⟩:=x;simp only at d6 d7;subst d6 d7;have a7:Bl w (w.alloc (O24 j f.length l m c.length t)):=QN _;have V:=h.below a7;have A1:=Bf w (O24 j f.length l m c.length t);have k1:Lw S G w (w.alloc (O24 j f.length l m c.length t)):=Dd a7;have b1:=hv.below a7;have b2:=hT.below a7;obtain⟨I,J⟩:=cl2 A1;have Y:=Bb V.blk 0;have Z:=Bb V.blk 1;have x8:=Bb V.blk 8;have a3:=Bb V.blk 28;have b3:=Bb V.blk 29;have c0:=Bj V.blk 29;have K:=Pk V.blk;simp at I J Y Z x8 a3 b3;have i0:=h.len;have i1:S<w.heap.size:=Pk h.blk;have i2:G<w.heap.size:=(h.free 0).2;have i3:=h.cap;unfold D9;simp only[FrV.val];by_cases c1:q<0;rw[Sp (.inl c1)]
 rotate_left
 obtain⟨k,rfl⟩:∃k:Nat,q=(k:Int):=⟨q.toNat,Bd⟩;have d1:decide ((k:Int)<0)=false:=Bwx c1;by_cases c2:(s.sp.length:Int)<=(k:Int);rw[Sp (.inr (.inl c2))]
 rotate_left
 have d2:decide (s.sp.length<=k)=false:=Bwx Bd;by_cases c3:b.st<(c.length:Int);rw[Sp (.inr (.inr c3))]
 rotate_left
 ·rw[Pf Bd];have d3:decide (b.st<(c.length:Int))=false:=Bwx c3;have hk:k<s.sp.length:=Bd;have kb:(k:Int)<(s.sp.length:Int):=Bd;have ek:((k:Int)).toNat=k:=Fr;rw[ek];obtain⟨u,hu,z0,z1,z2,z3,z4⟩:=V.at hk;obtain⟨ua,un,uc,va,vn,vc⟩:=u;simp only at z0 z1;have lG:=(V.free 0).2;generalize d8:(s.at k).st=st at *;generalize d9:(s.at k).ri=ri at *;generalize i4:(s.at k).wa=wa at *;cases st with
  | false =>
   rw[Sp rfl];go_in;go_wp2;go_quiet (fail);rename_i nq;have F:Bl (w.alloc (O24 j f.length l m c.length t)) (((w.alloc (O24 j f.length l m c.length t)).drewN nq).alloc (O28 ua un uc va vn vc false ri wa)):=(Cy (Vm (w.alloc (O24 j f.length l m c.length t)).heap.size (w.alloc (O24 j f.length l m c.length t)))).alloc (Wf (w.alloc (O24 j f.length l m c.length t)).heap.size) _;have N:=V.below F;have P2:(((w.alloc (O24 j f.length l m c.length t)).drewN nq).alloc (O28 ua un uc va vn vc false ri wa)).heap[w.heap.size+1]?=some (O28 ua un uc va vn vc false ri wa):=Bv w (O24 j f.length l m c.length t) _;have A2:=stay F A1;have a8:=b1.below F;have b4:=hu.below F;have b5:=b2.below F;have K2:=k1.trans (Dd F);go_wp2;clear V A1 b1 hu b2 k1 F I J Y Z x8 a3 b3 c0 K z0 z1 z2 z3 z4 hv hT h a7 lG;generalize ((w.alloc (O24 j f.length l m c.length t)).drewN nq).alloc (O28 ua un uc va vn vc false ri wa)=w2 at *;obtain⟨I,J⟩:=cl2 A2;obtain⟨p0,p1,p2⟩:=cl3 P2;have Y:=Bb N.blk 0;have Z:=Bb N.blk 1;have L:=Pk A2;have O:=Pk P2;have K:=Pk N.blk;simp at I J p0 p1 p2 Y Z;go_quiet (fail);have F:Bl w2 (w2.drewN nq):=Cy (Vm _ _);have D:=N.below F;have A3:=stay F A2;have b6:=a8.below F;have K3:=K2.trans (Dd F);go_wp2;clear N A2 P2 a8 b4 b5 K2 F I J p0 p1 p2 Y Z L O K;generalize w2.drewN nq=w3 at *;have a3:=Bb D.blk 28;obtain⟨I,J⟩:=cl2 A3;have L:=Pk A3;have K:=Pk D.blk;obtain⟨u9,-,z0,z1,z2,z3,-⟩:=D.at hk;obtain⟨f6,f7,f8,f9,g0,g1⟩:=u9;have f0:=(D.free (k*5)).1;have f1:=(D.free (k*5+1)).1;have f2:=(D.free (k*5+2)).1;have f3:=(D.free (k*5+3)).1;have lG:=(D.free 0).2;simp only at z0 z1;simp at I J a3
   go_region
   obtain⟨g4,k4⟩:=D.fr (u:=⟨j,f.length,l,m,c.length,t⟩) hk b6;have hd:=fun A:World=>(Vm A.heap.size A).drew;have g5:=g4.below (hd _);have K5:=(K3.trans k4).trans (Dd (hd _));obtain⟨g2,g7,y2,y3,q2,q3,g9⟩:=g5.put1 hk;rw[d8]at y2;rw[d9]at y3;clear D A3 b6 K3 a3 I J L K z0 z1 z2 z3 f0 f1 f2 f3 lG g4 k4 hd;generalize ((w3.setCell (.a G (k*5)) (.s j f.length l)).setCell (.a G (k*5+1)) (.s m c.length t)).drew=w5 at *;go_wp2;go_end0;obtain⟨g6,k6⟩:=Ed.put2 hk g5;exact⟨rfl,g6,K5.trans k6⟩
  | true =>
   rw[Pf Fr];have hF:=fun A c4 c5 c6=>Bd5 (ya:=b.ya) (yn:=b.yn) (yc:=b.yc) b.T b.tg b.tc ⟨j,f.length,l,m,c.length,t⟩ ⟨ua,un,uc,va,vn,vc⟩ ⟨f,c⟩ (s.at k).fr A hl c4 c5 c6;have hJ:=fun A c4 c5 c6=>Bm1 (ya:=b.ya) (yn:=b.yn) (yc:=b.yc) b.T b.tg b.tc ⟨j,f.length,l,m,c.length,t⟩ ⟨ua,un,uc,va,vn,vc⟩ ⟨f,c⟩ (s.at k).fr A hl c4 c5 c6;simp only[FrV.val]at hF hJ;generalize i5:(s.at k).fr=fr at *;generalize Hx b.T ⟨f,c⟩ fr=FB at *;have HF:=Bc hF;have HJ:=Bc hJ;clear hF hJ;cases FB;rw[Pf Fr];obtain⟨bc,a5⟩:∃bc,decide (f.length=fr.locals.length/\c.length=fr.stack.length)=bc:=⟨_,rfl⟩;have a9:=Bc (fun (_:Unit)=>a5);generalize hR:(if f.length=fr.locals.length/\c.length=fr.stack.length then s.put k (Lv b.T ⟨f,c⟩ fr) else s.stop)=R
   have c7:=Bc (fun (_:Unit)=>hR);clear a5 hR
   rotate_left
   rw[Sp rfl]
   rotate_left
   all_goals
    go_in;go_wp2;go_quiet (fail);rename_i nq;have F:Bl (w.alloc (O24 j f.length l m c.length t)) (((w.alloc (O24 j f.length l m c.length t)).drewN nq).alloc (O28 ua un uc va vn vc true ri wa)):=(Cy (Vm (w.alloc (O24 j f.length l m c.length t)).heap.size (w.alloc (O24 j f.length l m c.length t)))).alloc (Wf (w.alloc (O24 j f.length l m c.length t)).heap.size) _;have N:=V.below F;have P2:(((w.alloc (O24 j f.length l m c.length t)).drewN nq).alloc (O28 ua un uc va vn vc true ri wa)).heap[w.heap.size+1]?=some (O28 ua un uc va vn vc true ri wa):=Bv w (O24 j f.length l m c.length t) _;have A2:=stay F A1;have a8:=b1.below F;have b4:=hu.below F;have b5:=b2.below F;have K2:=k1.trans (Dd F);go_wp2;clear V A1 b1 hu b2 k1 F I J Y Z x8 a3 b3 c0 K z0 z1 z2 z3 z4 hv hT h a7 lG;generalize ((w.alloc (O24 j f.length l m c.length t)).drewN nq).alloc (O28 ua un uc va vn vc true ri wa)=w2 at *;obtain⟨I,J⟩:=cl2 A2;obtain⟨p0,p1,p2⟩:=cl3 P2;have Y:=Bb N.blk 0;have Z:=Bb N.blk 1;have L:=Pk A2;have O:=Pk P2;have K:=Pk N.blk;simp at I J p0 p1 p2 Y Z;have f4:=Ba HF w2.drew (b5.below (Vm _ _).drew) (a8.below (Vm _ _).drew) (b4.below (Vm _ _).drew);have f5:=Bc f4;clear f4
    go_region_held3 (fun A=>A.C w.heap.size 0 (.s j f.length l)/\A.C w.heap.size 1 (.s m c.length t)/\A.C (w.heap.size+1) 0 (.s ua un uc)/\A.C (w.heap.size+1) 1 (.s va vn vc)/\A.C (w.heap.size+1) 2 (.bool true)/\A.C S 0 (.s (.p b.tg) b.T.length b.tc)/\A.C S 1 (.s b.ya b.yn b.yc))
     (first|exact⟨I,J,p0,p1,p2,Y,Z⟩|exact⟨QC a4 L I,QC a4 L J,QC a4 O p0,QC a4 O p1,QC a4 O p2,QC a4 K Y,QC a4 K Z⟩)
     (first|(go_at_call 167;refine(Ba f5).mono ?_;rintro e B ⟨rfl,a4⟩))
    have a2:Bl w2 B:=(Vm _ _).drew.trans a4
   ·have h7:=N.below a2;have A7:=stay a2 A2;have P7:=stay a2 P2;have K7:=K2.trans (Dd a2);have c8:=a8.below a2;have c9:=b4.below a2;have d0:=b5.below a2;clear N A2 P2 K2 a8 b4 b5 a4 a2 I J p0 p1 p2 Y Z L O K f5;obtain⟨I,J⟩:=cl2 A7;obtain⟨p0,p1,p2⟩:=cl3 P7;have Y:=Bb h7.blk 0;have Z:=Bb h7.blk 1;have L:=Pk A7;have O:=Pk P7;have K:=Pk h7.blk;simp at I J p0 p1 p2 Y Z
    go_upto_region 6 with fail
    go_cut [7,8] from 9 (fun s7 s8 wx=>∃(jb:Nat) (z:FrV),s7=.q jb 0/\s8=.bool bc/\wx.heap[jb]?=some (O24 z.la z.ln z.lc z.sa z.sn z.sc)/\(bc=true->FrV.is z (Lv b.T ⟨f,c⟩ fr) wx)/\Bl B wx)
    case first=>
     have a6:B.drew.C w.heap.size 0 (.s j f.length l)/\B.drew.C w.heap.size 1 (.s m c.length t)/\B.drew.C (w.heap.size+1) 0 (.s ua un uc)/\B.drew.C (w.heap.size+1) 1 (.s va vn vc)/\B.drew.C S 0 (.s (.p b.tg) b.T.length b.tc)/\B.drew.C S (0+1) (.s b.ya b.yn b.yc):=⟨I,J,p0,p1,Y,Z⟩;have b0:Bl B.drew (B.alloc (O24 none 0 0 none 0 0)).drew:=⟨rfl,rfl,rfl,(show B.heap.size<=(B.alloc (O24 none 0 0 none 0 0)).heap.size by simp),fun k hk=>(((Vm _ B).alloc (Wf _) (O24 none 0 0 none 0 0)).block k hk)⟩;have lZ:B.drew.heap.size<=(B.alloc (O24 none 0 0 none 0 0)).drew.heap.size:=b0.size;have Z0:(B.alloc (O24 none 0 0 none 0 0)).drew.heap[B.heap.size]?=some (O24 none 0 0 none 0 0):=Bf B _;have b7:Bl B B.drew:=(Vm _ _).drew;have b8:Bl B (B.alloc (O24 none 0 0 none 0 0)).drew:=b7.trans b0;replace L:w.heap.size<B.drew.heap.size:=L;replace O:w.heap.size+1<B.drew.heap.size:=O;replace K:S<B.drew.heap.size:=K;have d4:=Ba HJ B.drew (d0.below b7) (c8.below b7) (c9.below b7);have d5:=Ba HJ (B.alloc (O24 none 0 0 none 0 0)).drew (d0.below b8) (c8.below b8) (c9.below b8);rw[Ba a9 ()]at d4 d5;have h0:=Bc d4;have h4:=Bc d5;clear d4 d5;go_wp2
     go_region_held3 (fun A=>A.C w.heap.size 0 (.s j f.length l)/\A.C w.heap.size 1 (.s m c.length t)/\A.C (w.heap.size+1) 0 (.s ua un uc)/\A.C (w.heap.size+1) 1 (.s va vn vc)/\A.C S 0 (.s (.p b.tg) b.T.length b.tc)/\A.C S (0+1) (.s b.ya b.yn b.yc))
      (first|(with_reducible exact a6)|(with_reducible exact Iq L O K a6 Q)|(with_reducible exact Iq L O K a6 (Q.alloc Q.size _))|(with_reducible exact Iq L O K a6 b0)|(with_reducible exact Iq L O K a6 (b0.trans (Q.mono lZ)))|(with_reducible exact Iq L O K a6 ((b0.trans (Q.mono lZ)).setCell (Wf _) _))|(with_reducible exact Iq L O K a6 (((b0.trans (Q.mono lZ)).setCell (Wf _) _).setCell (Wf _) _)))
      (first|(go_at_call 168;refine(Ba h0).mono ?_;rintro e w9 ⟨z,rfl,hz,Q⟩;obtain⟨ja,jn,jc,ka,kn,kc⟩:=z;simp only[FrV.val])|(go_at_call 168;refine(Ba h4).mono ?_;rintro e w9 ⟨z,rfl,hz,Q⟩;obtain⟨ja,jn,jc,ka,kn,kc⟩:=z;simp only[FrV.val];have Z9:=stay Q Z0;have h5:=Bb Z9 0;have h6:=Bb Z9 1;have i6:=Bj Z9 0;have i7:=Bj Z9 1;simp at h5 h6))
     all_goals
      go_wp2
      go_meet
     ·exact⟨_,⟨ja,jn,jc,ka,kn,kc⟩,rfl,rfl,Bf w9 _,fun hq=>(hz (of_decide_eq_true ((Ba a9 ()).trans hq))).below (QN _),(b7.trans (Q.mono (Wf _))).alloc (Bvv (Wf _) Q.size) _⟩
     exact⟨_,⟨ja,jn,jc,ka,kn,kc⟩,rfl,rfl,Rp Z9 _ _,fun hq=>(hz (of_decide_eq_true ((Ba a9 ()).trans hq))).set2 Z9 _ _,((QB b8 Q).setCell (Wf _) _).setCell (Wf _) _⟩
    case rest=>
     obtain⟨jb,z,rfl,rfl,ZB,b9,Q⟩:=hcut;obtain⟨ja,jn,jc,ka,kn,kc⟩:=z;simp only at ZB;have h9:=h7.below Q;have A9:=stay Q A7;have K9:=K7.trans (Dd Q);clear h7 A7 P7 K7 c8 c9 d0 Q I J p0 p1 p2 Y Z L O K;obtain⟨y0,y1⟩:=cl2 ZB;obtain⟨I,J⟩:=cl2 A9;obtain⟨q0,q1⟩:=fr2 A9;have lJ:=Pk ZB;have L:=Pk A9;simp at I J y0 y1;have hR:=Ba c7 ();have a5:=Ba a9 ();cases bc
     ·rw[Pf (of_decide_eq_false a5)]at hR;subst hR;clear a5 a9 c7;have D:=h9;have K3:=K9;clear h9 K9;have b3:=Bb D.blk 29;have c0:=Bj D.blk 29;have K:=Pk D.blk;simp at b3;obtain⟨g4,k4⟩:=D.stop;go_wp2;refine tb (.tuple #[]) (by simp[results,Byv,go_sem]) ?_;exact⟨rfl,g4,K3.trans k4⟩
     rw[Sp (of_decide_eq_true a5)]at hR;subst hR;replace b9:=b9 rfl;clear a5 a9 c7;have D:=h9.box A9 Bd Bd (.s ja jn jc) (.s ka kn kc);have A3:=Rp A9 (.s ja jn jc) (.s ka kn kc);have b6:=b9.set2 A9 (.s ja jn jc) (.s ka kn kc);have K3:=K9.box (g:=w.heap.size) (Wf _) (.s ja jn jc) (.s ka kn kc)
     go_upto_region 10 with fail
     clear h9 A9 b9 K9 ZB y0 y1 I J q0 q1 lJ L;generalize ((wc.setCell (.a w.heap.size 0) (.s ja jn jc)).setCell (.a w.heap.size 1) (.s ka kn kc))=w3 at *;have a3:=Bb D.blk 28;obtain⟨I,J⟩:=cl2 A3;have L:=Pk A3;have K:=Pk D.blk;obtain⟨u9,-,z0,z1,z2,z3,-⟩:=D.at hk;obtain⟨f6,f7,f8,f9,g0,g1⟩:=u9;have f0:=(D.free (k*5)).1;have f1:=(D.free (k*5+1)).1;have f2:=(D.free (k*5+2)).1;have f3:=(D.free (k*5+3)).1;have lG:=(D.free 0).2;simp only at z0 z1;simp at I J a3
     go_region
     obtain⟨g4,k4⟩:=D.fr (u:=⟨ja,jn,jc,ka,kn,kc⟩) hk b6;have hd:=fun A:World=>(Vm A.heap.size A).drew;have g5:=g4.below (hd _);have K5:=(K3.trans k4).trans (Dd (hd _));obtain⟨g2,g7,y2,y3,q2,q3,g9⟩:=g5.put1 hk;rw[d8]at y2;rw[d9]at y3;clear D A3 b6 K3 a3 I J L K z0 z1 z2 z3 f0 f1 f2 f3 lG g4 k4 hd;generalize ((w3.setCell (.a G (k*5)) (.s ja jn jc)).setCell (.a G (k*5+1)) (.s ka kn kc)).drew=w5 at *;go_wp2;go_end0;obtain⟨g6,k6⟩:=Ed.put2 hk g5;exact⟨rfl,g6,K5.trans k6⟩
   have g8:=N.below a2;have K8:=K2.trans (Dd a2);go_wp2;refine tb (.tuple #[]) (by simp[results,Byv,go_sem]) ?_;exact⟨rfl,g8,K8⟩
 all_goals
  clear h hv b1 hT b2;go_in;go_wp2;go_quiet (fail);rename_i nq;have F:Bl (w.alloc (O24 j f.length l m c.length t)) ((w.alloc (O24 j f.length l m c.length t)).drewN nq):=Cy (Vm _ _);have N:=V.below F;have h8:=Bb N.blk 29;have i8:=Bj N.blk 29;have i9:=Pk N.blk;simp at h8;obtain⟨g3,k3⟩:=N.stop;have K3:=(k1.trans (Dd F)).trans k3;clear V N k1 k3 F;go_wp2;refine tb (.tuple #[]) (by simp[results,Byv,go_sem]) ?_;exact⟨rfl,g3,K3⟩
def Bei(b:PBd)(S G m:Nat)(s:Bt)(v:FrV)(x:Be)(q:Int)(w:TW)(Z:b.T.length<=1000)(B:Dl w b.tg b.T)(h:Ed w S G b m s)(C:v.is x w):Calls prog 223 #[.q S 0,v.val,.i q] w fun e g=>e=.r (.tuple #[])/\Ed g S G b m (Ie b.T b.st x q s)/\Lw S G w g:=by
 have p:=fun g (t:Bl w g)=>Za b S G m s v x q g Z (B.below t) (h.below t) (C.below t);unfold Ie Vt;generalize D9 b.T b.st x q s=s1 at *;obtain⟨D,F,I,J,L,N⟩:=v;simp only[FrV.val]at p ⊢;have z:=Bc p;have j:Bl w (w.alloc (O24 D F I J L N)):=QN _;have l:Lw S G w (w.alloc (O24 D F I J L N)):=Dd j;clear p B h C;by_cases O:0<=q
 ·obtain⟨k,rfl⟩:∃k:Nat,q=(k:Int):=⟨q.toNat,Bd⟩;by_cases Q:(k:Int)<(s1.sp.length:Int);·rw[Sp ⟨O,Q⟩];go_in;go_wp2_with fail;refine Qm (Ba z _ j) ?_;rintro V ⟨c,f⟩;have A:=Bb c.blk 28;have lS:=Pk c.blk;obtain⟨u,hu,z0,z1,z2,z3,z4⟩:=c.at (i:=k) Bd;obtain⟨f4,lG⟩:=c.free (k*5+4);obtain⟨g2,Y⟩:=c.wa (q:=k) Bd true;have K:=(l.trans f).trans Y;have a0:=c.cap;have a1:=c.len;simp at A;clear l f Y c hu j;go_wp2;go_end0;exact⟨rfl,by simpa[Bt.want] using g2,K⟩
  rw[Pf (fun h=>Q h.2)];go_in;go_wp2_with fail;refine Qm (Ba z _ j) ?_;rintro V ⟨c,f⟩;have A:=Bb c.blk 28;have lS:=Pk c.blk;simp at A;go_wp2;go_end0;exact⟨rfl,c,l.trans f⟩
 rw[Pf (fun h=>O h.1)];go_in;go_wp2_with fail;refine Qm (Ba z _ j) ?_;rintro V ⟨c,f⟩;go_wp2;go_end0;exact⟨rfl,c,l.trans f⟩
def Lw.stay{S:Nat}{b:TW}{k:Nat}{o:Obj}(c:Lw S s w b)(h:w.heap[k]?=some o)(e:k≠S)(f:k≠s):b.heap[k]?=some o:=(c.block k (Pk h) e f).trans h
def Bnq(b:PBd)(S G gc:Nat)(f:List Rd.Hnd)(bb:Nat)(p:Int)(s:Bt)(v:FrV)(x:Be)(w:TW)(hl:b.T.length<=1000)(hT:∀j,Lw S G w j->Dl j b.tg b.T)(a5:b.hl=f.length)(c1:f.length<=1000)(b3:∀j,Lw S G w j->J5 j bb (.s b.ha b.hl b.hc) f)(h:Ed w S G b gc s)(hv:v.is x w):Calls prog 220 #[.q S 0,.i p,v.val] w fun e j=>e=.r (.tuple #[])/\Ed j S G b gc (Dy b.T b.st p x.locals f s)/\Lw S G w j:=by
 have hJ:=fun u y q s' j (k:Lw S G w j) h' hu=>Bei b S G gc s' u y q j hl (hT j k) h' hu;have hC:=fun c j (k:Lw S G w j)=>Bcq c v x j (hv.lw k);have D:=Bc b3;generalize l:Dy b.T b.st p x.locals f s=R;have A:Hid (Dy b.T b.st p x.locals (f.drop 0) s=R):=l;have a2:=Bb h.blk 10;have lS:=Pk h.blk;simp at a2;have b7:S<w.heap.size:=lS;have c2:G<w.heap.size:=(h.free 0).2;obtain⟨I,J,K,L,N,O⟩:=v;simp only[FrV.val]at hC ⊢;rw[a5]at a2;have HJ:=Bc hJ;have HC:=Bc hC;have a6:Bl w (w.alloc (O24 I J K L N O)):=QN _;have K0:Lw S G w (w.alloc (O24 I J K L N O)):=Dd a6;have L0:=h.below a6;have A0:=Bf w (O24 I J K L N O);have a7:=(Bwg w (O24 I J K L N O) ⟨S,10,none⟩ b7).trans a2;clear l hT b3 hv hJ hC a2 h hl;unfold Hid at D;rw[a5]at D;generalize b.ha=ha at a7 D;generalize b.hc=hc at a7 D;have b8:=Bc D;clear D a5;go_in;go_wp2
 go_loopw [15] (fun i wr=>∃(q:Nat) (t:Bt),q<=f.length/\i=.i (q:Int)/\Hid (Dy b.T b.st p x.locals (f.drop q) t=R)/\Ed wr S G b gc t/\Lw S G w wr/\wr.heap[w.heap.size]?=some (O24 I J K L N O))
  (fun i _=>f.length-(intOf i).toNat)
 case atStart=>exact⟨0,s,Bd,rfl,A,L0,K0,A0⟩
 case round=>
  clear A L0 K0 A0 a6 a7;obtain⟨q,t,hq,rfl,A,L1,F,CA⟩:=hrel;have c3:=F.size;by_cases z:q<f.length
  ·obtain⟨g,hg,c4,_,Q⟩:=Cf (Ba b8 _ F) Bd;have y0:=(Q _ (De f q z 0 Bd).2).trans (De f q z 0 Bd).1;have y1:=(Q _ (De f q z 1 Bd).2).trans (De f q z 1 Bd).1;have y2:=(Q _ (De f q z 2 Bd).2).trans (De f q z 2 Bd).1;have y3:=(Q _ (De f q z 3 Bd).2).trans (De f q z 3 Bd).1;have hd:f.drop q=f[q]::f.drop (q+1):=Wr z;have l:=Ba A;rw[hd,Dy]at l;generalize f[q]=hh at *;obtain⟨V,Y,B,C⟩:=hh;simp at y0 y1 y2 y3;simp only at l;have kb:(q:Int)<(f.length:Int):=Bd;have a3:Bl wr (wr.alloc (O19 V Y B C)):=QN _;have L2:=L1.below a3;have K2:=F.trans (Dd a3);have a4:=stay a3 CA;have a8:=Bf wr (O19 V Y B C);have a9:=Y4 ⟨V,Y,B,C⟩ p (wr.alloc (O19 V Y B C));simp only at a9;generalize El ⟨V,Y,B,C⟩ p=CV at *;have b4:=Bc a9;clear a9 hd Q A a3;subst hg;cases CV with
   | false =>
    rw[Pf Fr]at l;have HG:Hid (Dy b.T b.st p x.locals (f.drop (q+1)) t=R):=l;clear l;go_wp2_with fail;refine Qm (Ba b4) ?_;intro w1 m;have L3:=L2.below m;have Z:=K2.trans (Dd m);have a0:=stay m a4;clear m L2 K2 a4 L1 F CA a8;go_wp2;go_roundw
    case rel=>exact⟨q+1,t,Bd,Lt,HG,L3,Z,a0⟩
    case measure=>simp[intOf];omega
   | true =>
    rw[Sp rfl]at l;have HG:Hid (Dy b.T b.st p x.locals (f.drop (q+1)) (Ie b.T b.st ⟨x.locals,[(3,C)]⟩ B t)=R):=l;clear l;go_wp2_with fail;refine Qm (Ba b4) ?_;intro w1 m;have L3:=L2.below m;have Z:=K2.trans (Dd m);have a0:=stay m a4;have b0:=stay m a8;clear m L2 K2 a4 L1 F CA a8;obtain⟨x0,x1⟩:=cl2 a0;have z3:=Bb b0 3;simp at x0 x1 z3;go_wp2_with fail;refine(Ba HC C _ Z).mono ?_;rintro e w2 ⟨u,rfl,hu,b1⟩;obtain⟨ua,un,uc,va,vn,vc⟩:=u;have a1:Bl w1 (w2.alloc (O24 ua un uc va vn vc)):=b1.alloc b1.size _;have b5:=hu.below (show Bl w2 (w2.alloc (O24 ua un uc va vn vc)) from QN _);have L4:=L3.below a1;have K4:=Z.trans (Dd a1);have b6:=stay a1 a0;have b2:=stay a1 b0;have hj:=Ba HJ ⟨ua,un,uc,va,vn,vc⟩ _ B t _ K4 L4 b5;simp only[FrV.val]at hj;have b9:=Bc hj;have z2:=Bb b2 2;have lH:=Pk b2;simp at z2;clear b1 L3 Z a0 b0 x0 x1 z3 a1 hu b5 hj;go_wp2_with fail;refine Qm (Ba b9) ?_;rintro w3 ⟨L5,K5⟩;have c0:=K5.stay b6 Bd Bd;have K6:=K4.trans K5;clear L4 K4 K5 b6 b2;go_wp2;go_roundw
    case rel=>exact⟨q+1,_,Bd,Lt,HG,L5,K6,c0⟩
    case measure=>simp[intOf];omega
  have kb:¬(q:Int)<(f.length:Int):=Bd;have e:t=R:=by rw[<- Ba A,Bvi Bd];rfl
  subst e;clear A;go_wp2;go_end0;exact⟨rfl,L1,F⟩
def Wu (T:TI)(hi:Int)(op n nxt:Int)(RB:Option Be)(s:Bt):Bt :=
 match RB with
 | none=>s.stop
 | some y=>if Dz op=true then D9 T hi y nxt (if Dx op=true then Ie T hi y n s else s) else (if Dx op=true then Ie T hi y n s else s)
def Bk0(T:TI)(b:Int)(e:List Rd.Hnd)(c:Cd.Ins->Be->Option Be)(i:Cd.Ins)(x:Be)(s:Bt):Mj T b e c i x s=Wu T b i.op i.n (i.place+(Cd.wd i.op:Int)) (c i x) (Dy T b i.place x.locals e s):=by
 unfold Mj Wu;cases c i x<;>rfl
def Bdc{b:TW}{u0 u1 u2 u3 u4 u5 u6 u7 u8 u9 u10 u11 u12 u13 u14 u15 u16 u17 u18 u19:TX}(e:u<w.heap.size)(f:s<w.heap.size)(g:j<w.heap.size)(h:w.C u 13 u0/\w.C u 14 u1/\w.C u 15 u2/\w.C u 16 u3/\w.C u 17 u4/\w.C u 18 u5/\w.C u 19 u6/\w.C u 20 u7/\w.C u 21 u8/\w.C u 22 u9/\w.C u 23 u10/\w.C u 24 u11/\w.C u 25 u12/\w.C u 26 u13/\w.C u 27 u14/\w.C s 0 u15/\w.C s 1 u16/\w.C s 2 u17/\w.C j 0 u18/\w.C j 1 u19)(c:Bl w b):b.C u 13 u0/\b.C u 14 u1/\b.C u 15 u2/\b.C u 16 u3/\b.C u 17 u4/\b.C u 18 u5/\b.C u 19 u6/\b.C u 20 u7/\b.C u 21 u8/\b.C u 22 u9/\b.C u 23 u10/\b.C u 24 u11/\b.C u 25 u12/\b.C u 26 u13/\b.C u 27 u14/\b.C s 0 u15/\b.C s 1 u16/\b.C s 2 u17/\b.C j 0 u18/\b.C j 1 u19 :=
 ⟨QC c e h.1,QC c e h.2.1,QC c e h.2.2.1,QC c e h.2.2.2.1,QC c e h.2.2.2.2.1,QC c e h.2.2.2.2.2.1,QC c e h.2.2.2.2.2.2.1,QC c e h.2.2.2.2.2.2.2.1,QC c e h.2.2.2.2.2.2.2.2.1,QC c e h.2.2.2.2.2.2.2.2.2.1,QC c e h.2.2.2.2.2.2.2.2.2.2.1,QC c e h.2.2.2.2.2.2.2.2.2.2.2.1,QC c e h.2.2.2.2.2.2.2.2.2.2.2.2.1,QC c e h.2.2.2.2.2.2.2.2.2.2.2.2.2.1,QC c e h.2.2.2.2.2.2.2.2.2.2.2.2.2.2.1,QC c f h.2.2.2.2.2.2.2.2.2.2.2.2.2.2.2.1,QC c f h.2.2.2.2.2.2.2.2.2.2.2.2.2.2.2.2.1,QC c f h.2.2.2.2.2.2.2.2.2.2.2.2.2.2.2.2.2.1,QC c g h.2.2.2.2.2.2.2.2.2.2.2.2.2.2.2.2.2.2.1,QC c g h.2.2.2.2.2.2.2.2.2.2.2.2.2.2.2.2.2.2.2⟩
def Bns(b:PBd)(S G gc:Nat)(p:Nat)(op n:Int)(s s1:Bt)(RB:Option Be)(v:FrV)(w:TW)(hl:b.T.length<=1000)(hT:∀f,Lw S G w f->Dl f b.tg b.T)(hp:p<=100000)(h:Ed w S G b gc s) (hH:∀f,Bl w f->Calls prog 220 #[.q S 0,.i (p:Int),v.val] f fun e a5=>e=.r (.tuple #[])/\Ed a5 S G b gc s1/\Lw S G f a5) (b1:∀f,Lw S G w f->Calls prog 221 #[b.val,.agg #[.i (p:Int),.i op,.i n],v.val] f fun e a5=>∃u:FrV,e=.r (.tuple #[u.val,.bool RB.isSome])/\(∀y,RB=some y->u.is y a5)/\Bl f a5):Calls prog 169 #[.q S 0,.agg #[.i (p:Int),.i op,.i n],v.val] w fun e f=>e=.r (.tuple #[])/\Ed f S G b gc (Wu b.T b.st op n ((p:Int)+(Cd.wd op:Int)) RB s1)/\Lw S G w f:=by
 have hJ:=fun u y q s' f (k:Lw S G w f) h' A=>Bei b S G gc s' u y q f hl (hT f k) h' A;have b8:=fun u y q s' f (k:Lw S G w f) h' A=>Za b S G gc s' u y q f hl (hT f k) h' A;have b9:=fun f=>W7 p op n f hp;have c0:=fun f=>Baz op f;have c1:=fun f=>Yw op f;have f7:S<w.heap.size:=Pk h.blk;have f8:G<w.heap.size:=(h.free 0).2;have d1:((p:Int)+(Cd.wd op:Int))=((p+Cd.wd op:Nat):Int):=Bd;rw[d1];generalize p+Cd.wd op=b2 at *;generalize hR:Wu b.T b.st op n (b2:Int) RB s1=R;unfold Wu at hR;generalize Dx op=J at *;generalize Dz op=GO at *;obtain⟨la,ln,lc,sa,sn,sc⟩:=v;simp only[PBd.val,FrV.val]at hH b1 ⊢;have HR:=Bc hR;have HH:=Bc hH;have b3:=Bc b1;have HJ:=Bc hJ;have d2:=Bc b8;have d3:=Bc b9;have c2:=Bc c0;have d4:=Bc c1;clear hR hH b1 hJ b8 b9 c0 c1 hT hl h;have b4:=Bx w (O15 (p:Int) op n) (O24 la ln lc sa sn sc);have I0:=Cb w (O15 (p:Int) op n) (O24 la ln lc sa sn sc);have A0:=Bv w (O15 (p:Int) op n) (O24 la ln lc sa sn sc);have F:=Bb I0 0;obtain⟨a0,a1⟩:=cl2 A0;simp at F a0 a1;go_in;go_wp2_with fail;refine Qm (Ba HH _ b4) ?_;rintro c ⟨g,K1⟩;have a6:=(Dd (S:=S) (G:=G) b4).trans K1;have a3:=K1.stay I0 Bd Bd;have a8:=K1.stay A0 Bd Bd;have B:=Pk g.blk;have m:=Pk a3;have z:=Pk a8;have r0:c.C S 13 (.s b.fa1 b.fl1 b.fc1):=(Bb g.blk 13).trans rfl;have r1:c.C S 14 (.s b.fa2 b.fl2 b.fc2):=(Bb g.blk 14).trans rfl;have r2:c.C S 15 (.s (.p b.tg) b.T.length b.tc):=(Bb g.blk 15).trans rfl;have r3:c.C S 16 (.s b.ya b.yn b.yc):=(Bb g.blk 16).trans rfl;have r4:c.C S 17 (.i b.cl):=(Bb g.blk 17).trans rfl;have r5:c.C S 18 (.i b.nm):=(Bb g.blk 18).trans rfl;have r6:c.C S 19 (.s b.pa b.pl b.pc):=(Bb g.blk 19).trans rfl;have r7:c.C S 20 (.i b.r1):=(Bb g.blk 20).trans rfl;have r8:c.C S 21 (.i b.r2):=(Bb g.blk 21).trans rfl;have r9:c.C S 22 (.i b.lo):=(Bb g.blk 22).trans rfl;have c3:c.C S 23 (.i b.st):=(Bb g.blk 23).trans rfl;have c4:c.C S 24 (.s b.ca b.cn b.cc):=(Bb g.blk 24).trans rfl;have c5:c.C S 25 (.s b.ha b.hl b.hc):=(Bb g.blk 25).trans rfl;have c6:c.C S 26 (.s b.ma b.ml b.mc):=(Bb g.blk 26).trans rfl;have c7:c.C S 27 (.s b.la b.L.length b.lc):=(Bb g.blk 27).trans rfl;have m0:c.C w.heap.size 0 (.i (p:Int)):=(Bb a3 0).trans rfl;have m1:c.C w.heap.size 1 (.i op):=(Bb a3 1).trans rfl;have m2:c.C w.heap.size 2 (.i n):=(Bb a3 2).trans rfl;have I:c.C (w.heap.size+1) 0 (.s la ln lc):=(Bb a8 0).trans rfl;have K:c.C (w.heap.size+1) 1 (.s sa sn sc):=(Bb a8 1).trans rfl;have d5:=a6;clear I0 A0 b4 K1 F a0 a1
 go_upto_region 2 with fail
 go_cut [6,7] from 8 (fun s6 s7 D=>∃(yb:Nat) (u:FrV),s6=.q yb 0/\s7=.bool RB.isSome/\D.heap[yb]?=some (O24 u.la u.ln u.lc u.sa u.sn u.sc)/\w.heap.size+1<yb/\(∀y,RB=some y->u.is y D)/\Bl c D)
 case first=>
  have a2:c.drew.C S 13 (.s b.fa1 b.fl1 b.fc1)/\c.drew.C S 14 (.s b.fa2 b.fl2 b.fc2)/\c.drew.C S 15 (.s (.p b.tg) b.T.length b.tc)/\c.drew.C S 16 (.s b.ya b.yn b.yc)/\c.drew.C S 17 (.i b.cl)/\c.drew.C S 18 (.i b.nm)/\c.drew.C S 19 (.s b.pa b.pl b.pc)/\c.drew.C S 20 (.i b.r1)/\c.drew.C S 21 (.i b.r2)/\c.drew.C S 22 (.i b.lo)/\c.drew.C S 23 (.i b.st)/\c.drew.C S 24 (.s b.ca b.cn b.cc)/\c.drew.C S 25 (.s b.ha b.hl b.hc)/\c.drew.C S 26 (.s b.ma b.ml b.mc)/\c.drew.C S 27 (.s b.la b.L.length b.lc)/\c.drew.C w.heap.size 0 (.i (p:Int))/\c.drew.C w.heap.size 1 (.i op)/\c.drew.C w.heap.size 2 (.i n)/\c.drew.C (w.heap.size+1) 0 (.s la ln lc)/\c.drew.C (w.heap.size+1) 1 (.s sa sn sc):=⟨r0,r1,r2,r3,r4,r5,r6,r7,r8,r9,c3,c4,c5,c6,c7,m0,m1,m2,I,K⟩;have a4:Bl c.drew (c.alloc (O24 none 0 0 none 0 0)).drew:=⟨rfl,rfl,rfl,(show c.heap.size<=(c.alloc (O24 none 0 0 none 0 0)).heap.size by simp),fun k hk=>(((Vm _ c).alloc (Wf _) (O24 none 0 0 none 0 0)).block k hk)⟩;have lZ:c.drew.heap.size<=(c.alloc (O24 none 0 0 none 0 0)).drew.heap.size:=a4.size;have Z0:(c.alloc (O24 none 0 0 none 0 0)).drew.heap[c.heap.size]?=some (O24 none 0 0 none 0 0):=Bf c _;have b5:Bl c c.drew:=(Vm _ _).drew;have c8:Bl c (c.alloc (O24 none 0 0 none 0 0)).drew:=b5.trans a4;replace B:S<c.drew.heap.size:=B;replace m:w.heap.size<c.drew.heap.size:=m;replace z:w.heap.size+1<c.drew.heap.size:=z;have d6:=Bc (Ba b3 c.drew (a6.trans (Dd b5)));have d7:=Bc (Ba b3 (c.alloc (O24 none 0 0 none 0 0)).drew (a6.trans (Dd c8)));go_wp2
  go_region_held3 (fun f=>f.C S 13 (.s b.fa1 b.fl1 b.fc1)/\f.C S 14 (.s b.fa2 b.fl2 b.fc2)/\f.C S 15 (.s (.p b.tg) b.T.length b.tc)/\f.C S 16 (.s b.ya b.yn b.yc)/\f.C S 17 (.i b.cl)/\f.C S 18 (.i b.nm)/\f.C S 19 (.s b.pa b.pl b.pc)/\f.C S 20 (.i b.r1)/\f.C S 21 (.i b.r2)/\f.C S 22 (.i b.lo)/\f.C S 23 (.i b.st)/\f.C S 24 (.s b.ca b.cn b.cc)/\f.C S 25 (.s b.ha b.hl b.hc)/\f.C S 26 (.s b.ma b.ml b.mc)/\f.C S 27 (.s b.la b.L.length b.lc)/\f.C w.heap.size 0 (.i (p:Int))/\f.C w.heap.size 1 (.i op)/\f.C w.heap.size 2 (.i n)/\f.C (w.heap.size+1) 0 (.s la ln lc)/\f.C (w.heap.size+1) 1 (.s sa sn sc))
   (first|(with_reducible exact a2)|(with_reducible exact Bdc B m z a2 j)|(with_reducible exact Bdc B m z a2 (j.alloc j.size _))|(with_reducible exact Bdc B m z a2 a4)|(with_reducible exact Bdc B m z a2 (a4.trans (j.mono lZ)))|(with_reducible exact Bdc B m z a2 ((a4.trans (j.mono lZ)).setCell (Wf _) _))|(with_reducible exact Bdc B m z a2 (((a4.trans (j.mono lZ)).setCell (Wf _) _).setCell (Wf _) _)))
   (first|(go_at_call 221;refine(Ba d6).mono ?_;rintro e w7 ⟨u,rfl,A,j⟩;obtain⟨N,O,Q,V,Y,vc⟩:=u;simp only[FrV.val])|(go_at_call 221;refine(Ba d7).mono ?_;rintro e w7 ⟨u,rfl,A,j⟩;obtain⟨N,O,Q,V,Y,vc⟩:=u;simp only[FrV.val];have Z7:=stay j Z0;have d8:=Bb Z7 0;have d9:=Bb Z7 1;have f9:=Bj Z7 0;have g0:=Bj Z7 1;simp at d8 d9))
  all_goals
   go_wp2
   go_meet
  ·exact⟨_,⟨N,O,Q,V,Y,vc⟩,rfl,rfl,Bf w7 _,Bvm z j.size,fun y Z=>(A y Z).below (QN _),(b5.trans j).alloc j.size _⟩
  exact⟨_,⟨N,O,Q,V,Y,vc⟩,rfl,rfl,Rp Z7 _ _,z,fun y Z=>(A y Z).set2 Z7 _ _,((QB c8 j).setCell (Wf _) _).setCell (Wf _) _⟩
 case rest=>
  obtain⟨yb,u,rfl,rfl,YB,g1,A,a9⟩:=hcut;obtain⟨N,O,Q,V,Y,vc⟩:=u;simp only at YB;have L2:=g.below a9;have K2:=a6.trans (Dd a9);have a7:=stay a9 a3;clear g a6 d5 a3 a8 B m z a9 b3 HH r0 r1 r2 r3 r4 r5 r6 r7 r8 r9 c3 c4 c5 c6 c7 m0 m1 m2 I K;have l:=Ba HR;clear HR;cases RB with
  | none =>
   simp only at l;have f0:=Bb L2.blk 29;have g2:=Bj L2.blk 29;have B:=Pk L2.blk;simp at f0;obtain⟨g4,k4⟩:=L2.stop;rw[l]at g4;clear l;go_wp2;refine tb (.tuple #[]) (by simp[results,results169,go_sem]) ?_;exact⟨rfl,g4,K2.trans k4⟩
  | some y =>
   have Z:=A y rfl;obtain⟨F,i1,i2⟩:=cl3 a7;obtain⟨I,K⟩:=cl2 YB;have m:=Pk a7;have lY:=Pk YB;simp at F i1 i2 I K;simp only at l;clear A;go_wp2_with fail;refine Qm (Ba c2 _) ?_;rintro w3 rfl
   go_upto_if 31 with fail
   go_cut [8] from 9 (fun _ D=>∃t:Bt,Hid ((if GO=true then D9 b.T b.st y (b2:Int) t else t)=R)/\Ed D S G b gc t/\Lw S G w D/\D.heap[w.heap.size]?=some (O15 (p:Int) op n)/\D.heap[yb]?=some (O24 N O Q V Y vc)/\FrV.is ⟨N,O,Q,V,Y,vc⟩ y D)
   case first=>
    cases J with
    | false =>
     simp only[Bye,Bxk]at l;have b6:=Bc l;clear l;go_wp2
     go_meet
     case rel=>exact⟨_,b6,L2,K2,a7,YB,Z⟩
    | true =>
     simp only[By3]at l;have b6:=Bc l;clear l;have hj:=Ba HJ ⟨N,O,Q,V,Y,vc⟩ y n s1 _ K2 L2 Z;simp only[FrV.val]at hj;have f1:=Bc hj;clear hj;go_wp2_with fail;refine Qm (Ba f1) ?_;rintro w4 ⟨L4,K4⟩;have f2:=K4.stay a7 Bd Bd;have f3:=K4.stay YB Bd Bd;have f4:=Z.lw K4;go_wp2
     go_meet
     case rel=>exact⟨_,b6,L4,K2.trans K4,f2,f3,f4⟩
   case rest=>
    obtain⟨t,HA,L5,K5,b7,b0,c9⟩:=hcut;clear l L2 K2 a7 YB Z F i1 i2 I K m lY HJ c2;have l:=Ba HA;obtain⟨F,i1,i2⟩:=cl3 b7;obtain⟨I,K⟩:=cl2 b0;have m:=Pk b7;have lY:=Pk b0;simp at F i1 i2 I K;clear HA;go_wp2_with fail;refine Qm (Ba d4 _) ?_;rintro w6 rfl;cases GO with
    | false =>
     simp only[Bye,Bxk]at l;subst l;go_wp2;go_end0;exact⟨rfl,L5,K5⟩
    | true =>
     simp only[By3]at l;subst l;go_wp2_with fail;refine Qm (Ba d3 _) ?_;intro w7 j;have L7:=L5.below j;have K7:=K5.trans (Dd j);have d0:=stay j b0;have f5:=c9.below j;obtain⟨z0,z1⟩:=cl2 d0;have g3:=Pk d0;simp at z0 z1;have ha:=Ba d2 ⟨N,O,Q,V,Y,vc⟩ y (b2:Int) t _ K7 L7 f5;simp only[FrV.val]at ha;have f6:=Bc ha;clear ha L5 K5 b7 b0 c9 j I K F i1 i2;go_wp2_with fail;refine Qm (Ba f6) ?_;rintro w8 ⟨L8,K8⟩;go_wp2;go_end0;exact⟨rfl,L8,K7.trans K8⟩
def Bmu(b:PBd)(S G V bb:Nat)(L:List Cd.Ins)(c:Cd.Ins->Be->Bt->Bt)(Y:Bt->Prop)(s:Bt)(w:TW)(eL:b.L=L)(d7:L.length<=100000)(h:Ed w S G b V s)(h0:Y s)(hp:∀i∈L,0<=i.place) (b6:∀j,Lw S G w j->Hs j bb (.s b.la L.length b.lc) L) (b7:∀i∈L,∀t:Bt,Y t->i.place<(t.sp.length:Int)->(t.at i.place.toNat).ri=true->Y (c i (t.at i.place.toNat).fr (t.calm i.place.toNat))) (b8:∀i∈L,∀t:Bt,Y t->i.place<(t.sp.length:Int)->(t.at i.place.toNat).ri=true->∀(v:FrV) j,Lw S G w j->Ed j S G b V (t.calm i.place.toNat)->v.is (t.at i.place.toNat).fr j->Calls prog 169 #[.q S 0,.agg #[.i i.place,.i i.op,.i i.n],v.val] j fun e b9=>e=.r (.tuple #[])/\Ed b9 S G b V (c i (t.at i.place.toNat).fr (t.calm i.place.toNat))/\Lw S G j b9):Calls prog 112 #[.q S 0] w fun e j=>e=.r (.bool ((Ct c L false s).2 && !(Ct c L false s).1.hop))/\Ed j S G b V (Ct c L false s).1/\Y (Ct c L false s).1/\Lw S G w j:=by
 generalize C:Ct c L false s=R;have I:Hid (Ct c (L.drop 0) false s=R):=C;have a0:=Bb h.blk 12;have d8:S<w.heap.size:=Pk h.blk;have d9:G<w.heap.size:=(h.free 0).2;simp at a0;rw[eL]at a0;have a1:=b6;generalize b.la=la at a0 a1;generalize b.lc=lc at a0 a1;have c7:=Bc a1;have c8:=Bc b7;have c9:=Bc b8;have HP:=Bc hp;have H0:=Bc h0;clear C b6 a1 b7 b8 hp h0 eL;go_in;go_wp2
 go_loopw [3,12] (fun s3 d0 wr=>∃(q:Nat) (t:Bt) (B:Bool),q<=L.length/\s3=.bool B/\d0=.i (q:Int)/\Hid (Ct c (L.drop q) B t=R)/\Ed wr S G b V t/\Hid (Y t)/\Lw S G w wr)
  (fun _ v _=>L.length-(intOf v).toNat)
 case atStart=>exact⟨0,s,false,Bd,rfl,rfl,I,h,H0,Btl _ _ _⟩
 case round=>
  clear I h H0 a0;obtain⟨q,t,B,hq,rfl,rfl,I,D,Z,K1⟩:=hrel;have f0:=K1.size;by_cases b1:q<L.length
  ·obtain⟨g,hg,f1,_,a2⟩:=Cf (Ba c7 _ K1) Bd;obtain⟨t1,t2,t3,t4⟩:=W4 L q b1;have y0:=(a2 (q*3) Bd).trans t1;have y1:=(a2 (q*3+1) Bd).trans t2;have y2:=(a2 (q*3+2) Bd).trans t3;have b2:=Bvh b1;have f:L.drop q=L[q]::L.drop (q+1):=Wr b1;have C:=Ba I;rw[f,Ct]at C;have d2:=Ba HP _ b2;have a3:=Ba c8 _ b2 t (Ba Z);have a4:=Ba c9 _ b2 t (Ba Z);generalize L[q]=d3 at *;obtain⟨ip,op,n⟩:=d3;simp only at y0 y1 y2 C d2 a3 a4;obtain⟨p,rfl⟩:∃p:Nat,ip=(p:Int):=⟨ip.toNat,Bd⟩;simp only[Bvn]at C a3 a4;subst hg;have kb:(q:Int)<(L.length:Int):=Bd;have b3:Bl wr (wr.alloc (O15 (p:Int) op n)):=QN _;have F:=D.below b3;have K2:=K1.trans (Dd b3);have a5:=Bf wr (O15 (p:Int) op n);have c3:=Bc a3;have c4:=Bc a4;have a6:=Bc C;have f2:=D.len;have f4:=D.cap;clear a3 a4 C f a2 I t1 t2 t3 t4 b3;have l:=Bb a5 0;have m:=Bb F.blk 28;have lS:=Pk F.blk;have J:=Pk a5;simp at l m;by_cases c1:t.sp.length<=p
   ·have d1:decide (t.sp.length<=p)=true:=Bxp c1;have a7:(t.sp.length:Int)<=(p:Int):=Bd;have HG:Hid (Ct c (L.drop (q+1)) B t=R):=by unfold Hid;rw[<- Ba a6,Sp (.inl a7)]
    go_wp2;go_quiet (fail);rename_i nq;have z:Bl (wr.alloc (O15 (p:Int) op n)) ((wr.alloc (O15 (p:Int) op n)).drewN nq):=Cy (Vm _ _);have A:=F.below z;have K3:=K2.trans (Dd z);go_wp2;go_roundw
    case rel=>exact⟨q+1,t,B,Bd,rfl,Lt,HG,A,Z,K3⟩
    case measure=>simp[intOf];omega
   have d1:decide (t.sp.length<=p)=false:=Bwx c1;have kp:(p:Int)<(t.sp.length:Int):=Bd;obtain⟨u,K,N,O,z2,z3,z4⟩:=F.at (i:=p) Bd;obtain⟨ua,un,uc,va,vn,vc⟩:=u;simp only at N O;have lG:=(F.free 0).2;cases Q:(t.at p).ri with
   | false =>
    have HG:Hid (Ct c (L.drop (q+1)) B t=R):=by unfold Hid;rw[<- Ba a6,Sp (.inr Q)]
    rw[Q]at z3;go_wp2;go_quiet (fail);rename_i nq;have z:Bl (wr.alloc (O15 (p:Int) op n)) ((wr.alloc (O15 (p:Int) op n)).drewN nq):=Cy (Vm _ _);have A:=F.below z;have K3:=K2.trans (Dd z);go_wp2;go_roundw
    case rel=>exact⟨q+1,t,B,Bd,rfl,Lt,HG,A,Z,K3⟩
    case measure=>simp[intOf];omega
   | true =>
    have HG:Hid (Ct c (L.drop (q+1)) true (c ⟨(p:Int),op,n⟩ (t.at p).fr (t.calm p))=R):=by unfold Hid;rw[<- Ba a6,Pf (fun h=>h.elim (fun h=>Bd) (fun h=>by rw[Q]at h;cases h))]
    have d4:=Bc (Ba c3 kp Q);have c5:=Bc (Ba c4 kp Q);rw[Q]at z3;go_wp2;go_quiet (fail);rename_i nq;have z:Bl (wr.alloc (O15 (p:Int) op n)) ((wr.alloc (O15 (p:Int) op n)).drewN nq):=Cy (Vm _ _);have A:=F.below z;have K3:=K2.trans (Dd z);have a8:=stay z a5;clear F K2 a5 z l m N O z2 z3 z4 K lS J lG c3 c4 a6 D K1;go_wp2;generalize (wr.alloc (O15 (p:Int) op n)).drewN nq=w3 at *;have l:=Bb a8 0;have m:=Bb A.blk 28;have lS:=Pk A.blk;have J:=Pk a8;obtain⟨u,K,N,O,z2,z3,z4⟩:=A.at (i:=p) Bd;obtain⟨f3,lG⟩:=A.free (p*5+3);rw[Q]at z3;simp at l m;obtain⟨g4,k4⟩:=A.ri (q:=p) Bd false
    go_region
    have f:Bl (w3.setCell (.a G (p*5+3)) (.bool false)) (w3.setCell (.a G (p*5+3)) (.bool false)).drew:=(Vm _ _).drew;have b4:=k4.trans (Dd f);have L4:Ed (w3.setCell (.a G (p*5+3)) (.bool false)).drew S G b V (t.calm p):=g4.below f;have K4:=K3.trans b4;have a9:=b4.stay a8 Bd Bd;clear A K3 a8 l m lS J u K N O z2 z3 z4 f3 lG g4 k4 b4 f;generalize (w3.setCell (.a G (p*5+3)) (.bool false)).drew=w4 at *;have l:=Bb a9 0;have m:=Bb L4.blk 28;have lS:=Pk L4.blk;have J:=Pk a9;have ec:(t.calm p).sp.length=t.sp.length:=by simp[Bt.calm]
    obtain⟨u,K,N,O,-,-,-⟩:=L4.at (i:=p) Bd;have ef:((t.calm p).at p).fr=(t.at p).fr:=by unfold Bt.calm;rw[Xq t p _ Bd,Sp rfl]
    rw[ef]at K;rw[Bx6 Fr]at m;simp only[ec]at m;obtain⟨ua,un,uc,va,vn,vc⟩:=u;obtain⟨-,lG⟩:=L4.free 0;simp at l m N O;go_wp2
    go_region
    have f:Bl w4 (w4.alloc (O24 ua un uc va vn vc)).drew:=(QN _).drew;have L5:=L4.below f;have K5:=K4.trans (Dd f);have b5:=stay f a9;have b0:(w4.alloc (O24 ua un uc va vn vc)).drew.heap[w4.heap.size]?=some (O24 ua un uc va vn vc):=Bf w4 _;have c6:=K.below f;clear L4 K4 a9 l m lS J K N O lG f ec ef;generalize (w4.alloc (O24 ua un uc va vn vc)).drew=w5 at *;have hl:=Ba c5 ⟨ua,un,uc,va,vn,vc⟩ w5 K5 L5 c6;simp only[FrV.val]at hl;have d5:=Bc hl;obtain⟨l,i1,i2⟩:=cl3 b5;have c0:=Bb b0 0;have a7:=Bb b0 1;have J:=Pk b5;have lC:=Pk b0;simp at l i1 i2 c0 a7;clear hl c5;go_wp2_with fail;refine Qm (Ba d5) ?_;rintro w6 ⟨L6,K6⟩;have K7:=K5.trans K6;clear L5 K5 K6 b5 b0 c6 l i1 i2 c0 a7 J lC;go_wp2;go_roundw
    case rel=>exact⟨q+1,_,true,Bd,rfl,Lt,HG,L6,d4,K7⟩
    case measure=>simp[intOf];omega
  have kb:¬(q:Int)<(L.length:Int):=Bd;have e:(t,B)=R:=by rw[<- Ba I,Bvi Bd];rfl
  subst e;clear I;have d6:=Bb D.blk 29;have lS:=Pk D.blk;simp at d6;cases B with
  | false =>
   go_wp2;go_ret;exact⟨rfl,D,Ba Z,K1⟩
  | true =>
   go_wp2;go_ret;exact⟨Fr,D,Ba Z,K1⟩
def Sz (w:TW)(b:Nat)(v:TX)(l:List (Rd.Mp × Value × Value)):Prop :=
 w.ownsRow b 266 3 v l.length (Mn l)/\∀p∈l,TyR w p.2.1 p.1.locals/\TyR w p.2.2 p.1.stack
def Sz.below{b:TW}{i:TX}{l:List (Rd.Mp×Value×Value)}(h:Sz w u i l)(c:Bl w b):Sz b u i l :=
 ⟨Cx h.1 (Kp.of_below (e:=none) c) Ck,fun p f=>⟨(h.2 p f).1.below c,(h.2 p f).2.below c⟩⟩
def Bij(k:Nat)(p:Od):∀(l:List Od),Fp k (l++[p])=Fp k l++Fp (k+l.length) [p]:=by
 intro l
 induction l generalizing k with
 | nil=>rfl
 | cons x r ih =>
  simp only[Bws,Fp,ih,Bvo];rw[show k+1+r.length=k+(r.length+1) by omega]
  split<;>rfl
def Bii(s:Bt)(k:Nat)(b:k<s.sp.length):Fp 0 (s.sp.take (k+1))=Fp 0 (s.sp.take k)++(if (s.at k).wa=true then [⟨(k:Int),(s.at k).fr.locals,(s.at k).fr.stack⟩] else []):=by
 have e:s.sp.take (k+1)=s.sp.take k++[s.at k]:=by
  rw[Bvs b];unfold Bt.at;rw[Th,Ws b];rfl
 rw[e,Bij,Bxf,Bvp,Bx5 Bd];rfl
def Bnr(b:PBd)(S G gc:Nat)(s:Bt)(w:TW)(h:Ed w S G b gc s):Calls prog 113 #[.q S 0] w fun e w'=>∃a n c f,e=.r (.s a n c)/\f.map Prod.fst=Fp 0 s.sp/\Sz w' w.heap.size (.s a n c) f/\Bl w w':=by
 obtain⟨i0,V,a9,b0,b1⟩:=Bv4 Tryz.infoMap;have a1:=Bb h.blk 28;have lS:=Pk h.blk;have F:=(h.free 0).2;have b6:=h.len;have b7:=h.cap;simp at a1;have a2:=fun i V=>h.at (i:=i) V;generalize hR:Fp 0 s.sp=R;have HR:=Bc hR;have b2:=Bc a2;clear h hR a2;go_in;go_wp2
 go_loopw [3,11] (fun v i wr=>∃(k:Nat) (f:List (Rd.Mp×Value×Value)),k<=s.sp.length/\i=.i (k:Int)/\f.length<=k/\Hid (f.map Prod.fst=Fp 0 (s.sp.take k))/\wr.ownsRow w.heap.size 266 3 v f.length (Mn f)/\Hid (∀p∈f,TyR w p.2.1 p.1.locals/\TyR w p.2.2 p.1.stack)/\Bl w wr)
  (fun _ i _=>s.sp.length-(intOf i).toNat)
 case atStart=>exact⟨0,[],Bd,rfl,Wf _,rfl,Bvl _ _ _ _,(fun p l=>by simp at l),Vm _ _⟩
 case round=>
  clear a1;obtain⟨k,f,hk,rfl,b8,Y,I,L,g⟩:=hrel;have a3:=g.size;obtain⟨ma,mc,rfl⟩:=Bg I;by_cases a4:k<s.sp.length
  ·obtain⟨u,D,Z,z1,z2,z3,z4⟩:=Ba b2 k a4;obtain⟨m,t,z,A,B,vc⟩:=u;have N:=Bii s k a4;have a5:=D.lo;have a6:=D.st;simp only at Z z1 a5 a6;replace Z:=(g.cell (p:=.a G (k*5)) F).trans Z;replace z1:=(g.cell (p:=.a G (k*5+1)) F).trans z1;replace z2:=(g.cell (p:=.a G (k*5+2)) F).trans z2;replace z3:=(g.cell (p:=.a G (k*5+3)) F).trans z3;replace z4:=(g.cell (p:=.a G (k*5+4)) F).trans z4;clear D;generalize (s.at k).wa=wa at *;generalize (s.at k).st=O at *;generalize (s.at k).ri=Q at *;generalize (s.at k).fr=C at *;have kb:(k:Int)<(s.sp.length:Int):=Bd;have b9:G<wr.heap.size:=Bd
   cases wa with
   | false =>
    have a0:Hid (f.map Prod.fst=Fp 0 (s.sp.take (k+1))):=by unfold Hid;rw[Ba Y,N];simp
    have J:=g.alloc a3 (O28 m t z A B vc O Q false);have K:=I.alloc (O28 m t z A B vc O Q false);clear N;go_wp2;go_roundw
    case rel=>exact⟨k+1,f,Bd,Lt,Bd,a0,K,L,J⟩
    case measure=>simp[intOf];omega
   | true =>
    have a0:Hid ((f++[((⟨(k:Int),C.locals,C.stack⟩:Rd.Mp),Value.slice m t z,Value.slice A B vc)]).map Prod.fst=Fp 0 (s.sp.take (k+1))):=by unfold Hid;rw[Bvx,Ba Y,N];simp
    have b3:Hid (∀p∈f++[((⟨(k:Int),C.locals,C.stack⟩:Rd.Mp),Value.slice m t z,Value.slice A B vc)],TyR w p.2.1 p.1.locals/\TyR w p.2.2 p.1.stack):=fun p l=>by
     rcases List.mem_append.1 l with l|l
     ·exact Ba L p l
     rw[List.mem_singleton.1 l];exact⟨a5,a6⟩
    have J:=g.alloc a3 (O28 m t z A B vc O Q true);have K:=I.alloc (O28 m t z A B vc O Q true);clear N;go_wp2_with (at_builtin;refine Bvw _ rfl _ _ 131 rfl w.heap.size 266 i0 _ 3 56 underlying131 V a9 b0 b1 rfl Ck _ _ _ rfl (K.alloc _) ⟨wr.heap.size+1,0,none⟩ 1 1 [.i (k:Int),.s m t z,.s A B vc] rfl rfl ?c1 ?c2 ?c3 ?c4 ?c5 ?_)
    case c1=>exact Dv _ _ _ _ Fr
    case c2=>intro u D;simp at D;rcases D with rfl|rfl|rfl<;>rfl
    case c3=>unfold maxLen;omega
    case c4=>omega
    case c5=>simp;omega
    intro v' w5 a7 a8 _;have b4:=(J.alloc J.size (O17 (k:Int) m t z A B vc)).grown a8 Fm (fun j hj=>(K.lt j hj).1);have b5:w5.ownsRow w.heap.size 266 3 v' (f++[((⟨(k:Int),C.locals,C.stack⟩:Rd.Mp),Value.slice m t z,Value.slice A B vc)]).length (Mn (f++[((⟨(k:Int),C.locals,C.stack⟩:Rd.Mp),Value.slice m t z,Value.slice A B vc)])):=by rw[Xj,Up];exact a7
    clear a8 I K a7 g J;go_wp2;go_roundw
    case rel=>exact⟨k+1,_,Bd,Lt,Fm,a0,b5,b3,b4⟩
    case measure=>simp[intOf];omega
  have kb:¬(k:Int)<(s.sp.length:Int):=Bd;have e:f.map Prod.fst=R:=by rw[Ba Y,Bv0 Bd,Ba HR]
  have HE:=Bc e;clear e;go_wp2;go_ret;exact⟨_,_,_,rfl,f,Ba HE,⟨I,fun p l=>⟨(Ba L p l).1.below g,(Ba L p l).2.below g⟩⟩,g⟩
def Tryz.infoSpot:(prog.info? 260).map (fun i=>(i.zero,i.size,i.bytes))=some (some (.agg #[.s none 0 0,.s none 0 0,.bool false,.bool false,.bool false]),5,56):=Le
def Dg (n:Nat):Array Value:=madeCells (Value.agg #[.slice none 0 0,.slice none 0 0,.bool false,.bool false,.bool false]).cells (n*5)
def Bqb(n:Nat)(h:n<=1000)(w:TW):(Instr.makeSlice 185 (.i (n:Int)) (.i (n:Int))).run prog w=.ok (.s (.p w.heap.size) n n) (w.alloc (.cells (Dg n) 260)):=by
 obtain⟨b,c,e,f,g⟩:=Bv4 Tryz.infoSpot;have:=run_make w 185 260 b _ underlying185 c e .i64 .i64 (n:Int) (n:Int) Bd (Byo _) (by rw[g];omega) Bd;rw[f]at this;simpa[Dg] using this
def Bsn(n:Nat):(Dg n).size=n*5:=by simp[Dg,madeCells]
def Bce(n i j:Nat)(f:i<n)(g:j<5):(Dg n)[i*5+j]?=(#[.s none 0 0,.s none 0 0,.bool false,.bool false,.bool false]:Array Value)[j]?:=by
 have b:i*5+j<n*5:=Bd;have c:(i*5+j)%5=j:=Bd;unfold Dg madeCells;have e:j=0\/j=1\/j=2\/j=3\/j=4:=Bd;rcases e with rfl|rfl|rfl|rfl|rfl
 all_goals
  simp only[Value.cells,Array.getElem?_map];rw[Bx6 (by simpa using b)];simp[c]
def Ed.made{S:Nat}{n:Nat}(f:w.heap[S]?=some (O27 (.p b.tg) b.T.length b.tc b.ya b.yn b.yc b.cl b.nm b.pa b.pl b.pc b.r1 b.r2 b.lo b.st b.ca b.cn b.cc b.ha b.hl b.hc b.ma b.ml b.mc b.la b.L.length b.lc b.fa1 b.fl1 b.fc1 b.fa2 b.fl2 b.fc2 (.p b.tg) b.T.length b.tc b.ya b.yn b.yc b.cl b.nm b.pa b.pl b.pc b.r1 b.r2 b.lo b.st b.ca b.cn b.cc b.ha b.hl b.hc b.ma b.ml b.mc b.la b.L.length b.lc (.p s) n n false))(g:w.heap[s]?=some (.cells (Dg n) 260 (0,0)))(h:S≠s)(j:n<=1000):Ed w S s b n ⟨List.replicate n Jz,false⟩:=by
 refine⟨by simpa using f,⟨_,g,by simpa using Bsn n,fun i l=>?_⟩,h,by simpa using j,Fm⟩;have c:i<n:=by simpa using l
 have e:(⟨List.replicate n Jz,false⟩:Bt).at i=Jz:=by
  unfold Bt.at;rw[Th,By4,Sp c];rfl
 rw[e];exact⟨⟨none,0,0,none,0,0⟩,⟨Bce n i 0 c Bd,Bce n i 1 c Bd,Bce n i 2 c Bd,Bce n i 3 c Bd,Bce n i 4 c Bd⟩,⟨TyR.nil _,TyR.nil _,Bv5 _,Bv5 _⟩⟩
abbrev Dr:Obj:=.cells #[.slice none 0 0,.slice none 0 0,.int .i64 0,.int .i64 0,.slice none 0 0,.int .i64 0,.int .i64 0,.int .i64 0,.int .i64 0,.slice none 0 0,.slice none 0 0,.slice none 0 0,.slice none 0 0,.slice none 0 0,.slice none 0 0,.slice none 0 0,.slice none 0 0,.int .i64 0,.int .i64 0,.slice none 0 0,.int .i64 0,.int .i64 0,.int .i64 0,.int .i64 0,.slice none 0 0,.slice none 0 0,.slice none 0 0,.slice none 0 0,.slice none 0 0,.bool false] 187
abbrev B07(fa1 fa2:Option Addr)(fl1 fc1 fl2 fc2 tg tc:Nat)(ya:Option Addr)(yn yc:Nat)(cl nm:Int)(pa:Option Addr)(pl pc:Nat)(r1 r2 lo st:Int)(ca:Option Addr)(n cc:Nat)(ha:Option Addr)(hl hc:Nat)(ma:Option Addr)(ml mc:Nat)(la:Option Addr)(lc tn rn G:Nat):Array Value:=#[.slice (some ⟨tg,0,none⟩) tn tc,.slice ya yn yc,.int .i64 cl,.int .i64 nm,.slice pa pl pc,.int .i64 r1,.int .i64 r2,.int .i64 lo,.int .i64 st,.slice ca n cc,.slice ha hl hc,.slice ma ml mc,.slice la rn lc,.slice fa1 fl1 fc1,.slice fa2 fl2 fc2,.slice (some ⟨tg,0,none⟩) tn tc,.slice ya yn yc,.int .i64 cl,.int .i64 nm,.slice pa pl pc,.int .i64 r1,.int .i64 r2,.int .i64 lo,.int .i64 st,.slice ca n cc,.slice ha hl hc,.slice ma ml mc,.slice la rn lc,.slice (some ⟨G,0,none⟩) n n,.bool false]
def Tryz.infoSearch:(prog.info? 187).map (·.size)=some 30:=Le
def Uu{k:Nat}{G e:Array Value}{g c:TypeId}(h:w.heap[k]?=some (.cells G g (0,0)))(b:w.heap[k]?=some (.cells e c (0,0)))(f:g≠c):False:=by
 rw[h]at b;simp only[Option.some.injEq,Obj.cells.injEq]at b;exact f b.2.1
def Z8{b:TW}{S:Nat}{f:PBd}{Y:Bt}{K m:Nat}{g:TypeId}{i:TX}{e:TV}(h:w.ownsRow K g q i m e)(z:Ed w S s f j Y)(B:Lw S s w b)(C:g≠187)(D:g≠260):b.ownsRow K g q i m e:=by
 obtain⟨A,F|⟨l,I,J,a,c,d,r⟩⟩:=h
 ·exact⟨A,.inl F⟩
 obtain⟨N,L,_⟩:=z.spt;exact⟨A,.inr ⟨l,I,J,a,c,B.stay d (fun p=>by subst p;exact Uu d z.blk C) (fun p=>by subst p;exact Uu d L D),r⟩⟩
def TyR.uniq{a:TA}{n c:Nat}{l p:TP}(h:TyR w (.s a n c) l)(e:TyR w (.s a n c) p):l=p:=by
 obtain⟨I,-,-⟩:=h.cap;obtain⟨J,-,-⟩:=e.cap;have m:l.length=p.length:=Bd;by_cases q:l.length=0;·rw[Bwc q,Bwc (l:=p) Bd]
 obtain⟨g,o,t,_,v⟩:=h.at Bd;obtain⟨K,L,b,_,z⟩:=e.at Bd;rw[t]at b;simp only[Option.some.injEq,Addr.mk.injEq,Bwb]at b;obtain⟨rfl,rfl⟩:=b;refine Bz4 m (fun i A B=>?_);obtain⟨C,D⟩:=v i A;obtain⟨F,G⟩:=z i B;have f:=C.symm.trans F;have j:=D.symm.trans G;simp only[Option.some.injEq,Value.int.injEq,Byl]at f j;exact Bxd f j
def Ed.uniq{S:Nat}{Y t:Bt}(h:Ed w S s b j Y)(D:Ed w S s b j t):Y=t:=by
 have e:=h.blk.symm.trans D.blk;simp only[Option.some.injEq,Obj.cells.injEq,Array.mk.injEq,List.cons.injEq,Value.slice.injEq,Value.bool.injEq,Byl,Bwb]at e;obtain⟨F,I⟩:=e;obtain⟨z,J⟩:=Y;obtain⟨A,a0⟩:=t;simp only at F I;subst I
 congr 1
 refine Bz4 F (fun i K L=>?_);obtain⟨v,B,x0,x1,N,O,Q⟩:=h.at (i:=i) K;obtain⟨v',C,m,q,f,g,l⟩:=D.at (i:=i) L;have a1:(⟨z,J⟩:Bt).at i=z[i]:=by unfold Bt.at;rw[Th,Ws K];rfl
 have a2:(⟨A,J⟩:Bt).at i=A[i]:=by unfold Bt.at;rw[Th,Ws L];rfl
 rw[a1]at B N O Q;rw[a2]at C f g l;rw[x0]at m;rw[x1]at q;rw[N]at f;rw[O]at g;rw[Q]at l;simp only[Option.some.injEq,Value.slice.injEq,Value.bool.injEq]at m q f g l;obtain⟨la,ln,lc,sa,sn,sc⟩:=v;obtain⟨a3,a4,a5,a6,a7,a8⟩:=v';simp only at m q;obtain⟨rfl,rfl,rfl⟩:=m;obtain⟨rfl,rfl,rfl⟩:=q;have V:=B.lo.uniq C.lo;have Z:=B.st.uniq C.st;generalize z[i]=p at *;generalize A[i]=p' at *;obtain⟨⟨pl,ps⟩,a,c,d⟩:=p;obtain⟨⟨a9,b0⟩,a',c',d'⟩:=p';simp only at V Z f g l;subst V Z f g l;rfl
def Btm(f:Bt->Nat)(S G:Nat)(b:PBd)(g:Nat):∃M:TX->TW->Nat,(∀w t,Ed w S G b g t->M (.bool true) w=f t+1)/\∀w,M (.bool false) w=0:=by
 have i:∀(v:TX) (w:TW),∃n:Nat,(∀t,Ed w S G b g t->v=.bool true->n=f t+1)/\(v=.bool false->n=0):=fun v w=>by
  by_cases j:v=.bool true
  ·by_cases h:∃t,Ed w S G b g t;·obtain⟨t,c⟩:=h;exact⟨f t+1,fun m l _=>by rw[c.uniq l],fun e=>by rw[j]at e;simp at e⟩
   exact⟨0,fun t c _=>absurd ⟨t,c⟩ h,fun _=>rfl⟩
  exact⟨0,fun _ _ e=>absurd e j,fun _=>rfl⟩
 exact⟨fun v w=>Classical.choose (i v w),fun w t c=>(B0r (i (.bool true) w)).1 t c rfl,fun w=>(B0r (i (.bool false) w)).2 rfl⟩
def Bnt(Q V:TA)(Y Z a0 a1 I J:Nat)(ya:TA)(yn yc:Nat)(T:TI)(m:PM)(x:Rd.Mth)(bm:Nat)(x0:Be)(lk:Cd.Ins->Be->Bt->Bt)(OK:Bt->Prop)(mu:Bt->Nat)(done:Bt->Bt)(w:TW) (hl:T.length<=1000)(hT:Dl w I T)(hm:m.is x w bm)(c2:x.code.length<=1000)(d9:∀y∈x.code,0<=y) (f0:∀B,Bl w B->Calls prog 110 #[m.val] B fun e b4=>∃u:FrV,e=.returned u.val/\u.is x0 b4/\Bl B b4) (h0:OK (D9 T m.st x0 0 ⟨List.replicate x.code.length Jz,false⟩)) (f1:∀t,OK t->done t=if ((Ct lk (Cd.readL x.code) false t).2 && !(Ct lk (Cd.readL x.code) false t).1.hop)=true then done (Ct lk (Cd.readL x.code) false t).1 else (Ct lk (Cd.readL x.code) false t).1) (b0:∀t,OK t->((Ct lk (Cd.readL x.code) false t).2 && !(Ct lk (Cd.readL x.code) false t).1.hop)=true->mu (Ct lk (Cd.readL x.code) false t).1<mu t) (f2:∀D F bb S G t B,Bl w B->w.heap.size<=S->w.heap.size<=G->Hs B bb (.s D (Cd.readL x.code).length F) (Cd.readL x.code)->OK t->Ed B S G ⟨Q,Y,Z,V,a0,a1,I,J,ya,yn,yc,m.cl,m.nm,m.pa,m.pl,m.pc,m.r1,m.r2,m.lo,m.st,m.ca,x.code.length,m.cc,m.ha,m.hl,m.hc,m.ma,m.ml,m.mc,D,F,T,Cd.readL x.code⟩ x.code.length t->Calls prog 112 #[.q S 0] B fun e b4=>e=.r (.bool ((Ct lk (Cd.readL x.code) false t).2 && !(Ct lk (Cd.readL x.code) false t).1.hop))/\Ed b4 S G ⟨Q,Y,Z,V,a0,a1,I,J,ya,yn,yc,m.cl,m.nm,m.pa,m.pl,m.pc,m.r1,m.r2,m.lo,m.st,m.ca,x.code.length,m.cc,m.ha,m.hl,m.hc,m.ma,m.ml,m.mc,D,F,T,Cd.readL x.code⟩ x.code.length (Ct lk (Cd.readL x.code) false t).1/\OK (Ct lk (Cd.readL x.code) false t).1/\Lw S G B b4):Calls prog 70 #[.agg #[.s Q Y Z,.s V a0 a1],.agg #[.s (.p I) T.length J,.s ya yn yc],m.val] w fun e B=>∃a n c,e=.r (.tuple #[.s a n c,.bool (!(done (D9 T m.st x0 0 ⟨List.replicate x.code.length Jz,false⟩)).hop)])/\((done (D9 T m.st x0 0 ⟨List.replicate x.code.length Jz,false⟩)).hop=false->∃ms,ms.map Prod.fst=Fp 0 (done (D9 T m.st x0 0 ⟨List.replicate x.code.length Jz,false⟩)).sp/\Sz B w.heap.size (.s a n c) ms)/\Bl w B:=by
 have h6:=hm.cn;obtain⟨cl,nm,pa,pl,pc,r1,r2,lo,L,N,cn,O,ha,a3,hc,ma,ml,mc⟩:=m;simp only[PM.val,FrV.val]at *;subst h6;have c3:=fun B (h:Bl w B)=>Ap x.code N O bm B c2 d9 (hm.below h).code;have j4:=fun B=>Bqb x.code.length c2 B;have c4:=fun D F B=>Bgh ⟨Q,Y,Z,V,a0,a1,I,J,ya,yn,yc,cl,nm,pa,pl,pc,r1,r2,lo,L,N,x.code.length,O,ha,a3,hc,ma,ml,mc,D,F,T,Cd.readL x.code⟩ B;have c5:=fun D F S G s v y B h7 h hv=>Za ⟨Q,Y,Z,V,a0,a1,I,J,ya,yn,yc,cl,nm,pa,pl,pc,r1,r2,lo,L,N,x.code.length,O,ha,a3,hc,ma,ml,mc,D,F,T,Cd.readL x.code⟩ S G x.code.length s v y 0 B hl h7 h hv;simp only[PBd.val]at c4 c5 c3;generalize hR:done (D9 T L x0 0 ⟨List.replicate x.code.length Jz,false⟩)=R;have HR:=Bc hR;have f3:=Bc c4;have h8:=Bc c3;have f4:=Bc c5;have f5:=Bc f0;have h9:=Bc f2;have i0:=Bc f1;have i1:=Bc b0;have H0:=Bc h0;clear hR c4 c3 c5 f0 f2 f1 b0 h0 hm d9 hl;have c6:=Is w (O1 Q Y Z V a0 a1) (O2 (.p I) T.length J ya yn yc) (O18 cl nm pa pl pc r1 r2 lo L N x.code.length O ha a3 hc ma ml mc);obtain⟨F0,T0,M0⟩:=W8 w (O1 Q Y Z V a0 a1) (O2 (.p I) T.length J ya yn yc) (O18 cl nm pa pl pc r1 r2 lo L N x.code.length O ha a3 hc ma ml mc);go_in;go_wp2_with fail;refine(Ba h8 _ c6).mono ?_;rintro e f ⟨D,F,rfl,f6,b5⟩;obtain⟨bb,f7⟩:∃bb,Hs f bb (.s D (Cd.readL x.code).length F) (Cd.readL x.code):=⟨_,f6⟩;clear f6;have c7:=QB c6 b5;have b6:=stay b5 F0;have b7:=stay b5 T0;have b1:=stay b5 M0;have l:Bl f f.drew:=(Vm _ _).drew;have b2:=Bc (Ba f3 D F);clear F0 T0 M0 c6 b5 f3
 go_upto_region 2 with fail
 go_cut [11] from 12 (fun i2 wx=>∃S G,i2=.q S 0/\wx.heap[S]?=some (O27 (.p I) T.length J ya yn yc cl nm pa pl pc r1 r2 lo L N x.code.length O ha a3 hc ma ml mc D (Cd.readL x.code).length F Q Y Z V a0 a1 (.p I) T.length J ya yn yc cl nm pa pl pc r1 r2 lo L N x.code.length O ha a3 hc ma ml mc D (Cd.readL x.code).length F (.p G) x.code.length x.code.length false)/\wx.heap[G]?=some (.cells (Dg x.code.length) 260 (0,0))/\S≠G/\f.heap.size<=S/\f.heap.size<=G/\Bl f wx)
 case first=>
  go_wp2;have ST:=fun B (h:Bl f B)=>Ek (stay h b6) (stay h b7) (stay h b1);refine Bvz (S:=(fun B=>(B.C w.heap.size 0 (.s Q Y Z)/\B.C w.heap.size 1 (.s V a0 a1))/\(B.C (w.heap.size+1) 0 (.s (.p I) T.length J)/\B.C (w.heap.size+1) 1 (.s ya yn yc))/\B.C (w.heap.size+1+1) 0 (.i cl)/\B.C (w.heap.size+1+1) 1 (.i nm)/\B.C (w.heap.size+1+1) 2 (.s pa pl pc)/\B.C (w.heap.size+1+1) 3 (.i r1)/\B.C (w.heap.size+1+1) 4 (.i r2)/\B.C (w.heap.size+1+1) 5 (.i lo)/\B.C (w.heap.size+1+1) 6 (.i L)/\B.C (w.heap.size+1+1) 7 (.s N x.code.length O)/\B.C (w.heap.size+1+1) 8 (.s ha a3 hc)/\B.C (w.heap.size+1+1) 9 (.s ma ml mc))) Le (Ek b6 b7 b1) (fun j=>?_);refine tq 0 (.agg #[.s (.p I) T.length J,.s ya yn yc]) j ?_;refine tq 1 (.agg #[.i cl,.i nm,.s pa pl pc,.i r1,.i r2,.i lo,.i L,.s N x.code.length O,.s ha a3 hc,.s ma ml mc]) j ?_;refine tq 2 (.s D (Cd.readL x.code).length F) j ?_;refine tq 3 (.agg #[.s Q Y Z,.s V a0 a1]) j ?_;refine tq 4 (.agg #[.s (.p I) T.length J,.s ya yn yc]) j ?_;refine tq 5 (.agg #[.i cl,.i nm,.s pa pl pc,.i r1,.i r2,.i lo,.i L,.s N x.code.length O,.s ha a3 hc,.s ma ml mc]) j ?_;refine tq 6 (.s D (Cd.readL x.code).length F) j ?_;refine tq 8 (.q (w.heap.size+1+1) 7) j ?_;refine tq 9 (.s N x.code.length O) j ?_;refine tq 10 (.i (x.code.length:Int)) j ?_;refine Bw7 (rs:=[7,11,13]) Le Fr ?_;refine Bv3 (o:=⟨_,_,_,_,_,_⟩) rfl (fun K z=>?_) (Bv3 (o:=⟨_,_,_,_,_,_⟩) rfl (fun K z=>?_) (Bv3 (o:=⟨_,_,_,_,_,_⟩) rfl (fun K z=>?_) Bw2));go_simp;refine Qm (Ba b2 _) ?_;intro g a4;have A:Bl f g:=(l).trans (a4.mono (l).size)
  try dsimp only
  clear j;refine z.out _ _ (ST _ (A)) (fun j=>?_);clear z K
  try simp only[QX]
  refine Bw7 (rs:=[11,13]) Le Fr ?_;refine Bv3 (o:=⟨_,_,_,_,_,_⟩) rfl (fun K z=>?_) (Bv3 (o:=⟨_,_,_,_,_,_⟩) rfl (fun K z=>?_) Bw2);go_simp;clear j;refine z.out _ _ (ST _ ((A).alloc (A).size (.cells (Dg x.code.length) 260))) (fun j=>?_);clear z K
  try simp only[QX]
  refine tq 12 (.agg (B07 Q V Y Z a0 a1 I J ya yn yc cl nm pa pl pc r1 r2 lo L N x.code.length O ha a3 hc ma ml mc D F T.length (Cd.readL x.code).length (g.heap.size))) j ?_;refine tr 13 fun K z=>?_;go_simp;clear j;refine z.out _ _ (ST _ (((A).alloc (A).size (.cells (Dg x.code.length) 260)).alloc ((A).alloc (A).size (.cells (Dg x.code.length) 260)).size Dr)) (fun j=>?_);clear z K
  try simp only[QX]
  have a2:(((((g).alloc (.cells (Dg x.code.length) 260))).alloc Dr)).heap[g.heap.size+1]?=some Dr:=Bv g (.cells (Dg x.code.length) 260) Dr;have a5:(((((g).alloc (.cells (Dg x.code.length) 260))).alloc Dr)).heap[g.heap.size]?=some (.cells (Dg x.code.length) 260 (0,0)):=Bk (Bf g (.cells (Dg x.code.length) 260)) _;have a6:g.heap.size+1≠g.heap.size:=fun e=>by rw[e]at a2;exact Uu a2 a5 Ck
  have a7:Bl f (((((g).alloc (.cells (Dg x.code.length) 260))).alloc Dr)):=((A).alloc (A).size (.cells (Dg x.code.length) 260)).alloc ((A).alloc (A).size (.cells (Dg x.code.length) 260)).size Dr;have a8:f.heap.size<=g.heap.size+1:=by have:=((A).alloc (A).size (.cells (Dg x.code.length) 260)).size;(try simp at this ⊢)<;>(try omega)
  have b3:f.heap.size<=g.heap.size:=(A).size
  rotate_left
  go_simp;clear j;refine z.out _ _ (ST _ ((A).alloc (A).size Dr)) (fun j=>?_);clear z K
  try simp only[QX]
  refine tr 11 fun K z=>?_;go_simp;clear j;refine z.out _ _ (ST _ (((A).alloc (A).size Dr).alloc ((A).alloc (A).size Dr).size (.cells (Dg x.code.length) 260))) (fun j=>?_);clear z K
  try simp only[QX]
  refine tq 12 (.agg (B07 Q V Y Z a0 a1 I J ya yn yc cl nm pa pl pc r1 r2 lo L N x.code.length O ha a3 hc ma ml mc D F T.length (Cd.readL x.code).length (g.heap.size+1))) j ?_;have a2:(((((g).alloc Dr)).alloc (.cells (Dg x.code.length) 260))).heap[g.heap.size]?=some Dr:=Bk (Bf g Dr) _;have a5:(((((g).alloc Dr)).alloc (.cells (Dg x.code.length) 260))).heap[g.heap.size+1]?=some (.cells (Dg x.code.length) 260 (0,0)):=Bv g Dr (.cells (Dg x.code.length) 260);have a6:g.heap.size≠g.heap.size+1:=fun e=>by rw[e]at a2;exact Uu a2 a5 Ck
  have a7:Bl f (((((g).alloc Dr)).alloc (.cells (Dg x.code.length) 260))):=((A).alloc (A).size Dr).alloc ((A).alloc (A).size Dr).size (.cells (Dg x.code.length) 260);have a8:f.heap.size<=g.heap.size:=(A).size;have b3:f.heap.size<=g.heap.size+1:=by have:=((A).alloc (A).size Dr).size;(try simp at this ⊢)<;>(try omega)
  rotate_left
  go_simp;clear j;refine z.out _ _ (ST _ ((l).alloc (l).size (.cells (Dg x.code.length) 260))) (fun j=>?_);clear z K
  try simp only[QX]
  refine Bw7 (rs:=[7,13]) Le Fr ?_;refine Bv3 (o:=⟨_,_,_,_,_,_⟩) rfl (fun K z=>?_) (Bv3 (o:=⟨_,_,_,_,_,_⟩) rfl (fun K z=>?_) Bw2);go_simp;refine Qm (Ba b2 _) ?_;intro g a4;have A:Bl f g:=((l).alloc (l).size (.cells (Dg x.code.length) 260)).trans (a4.mono ((l).alloc (l).size (.cells (Dg x.code.length) 260)).size)
  try dsimp only
  clear j;refine z.out _ _ (ST _ (A)) (fun j=>?_);clear z K
  try simp only[QX]
  refine tq 12 (.agg (B07 Q V Y Z a0 a1 I J ya yn yc cl nm pa pl pc r1 r2 lo L N x.code.length O ha a3 hc ma ml mc D F T.length (Cd.readL x.code).length (f.heap.size))) j ?_;refine tr 13 fun K z=>?_;go_simp;clear j;refine z.out _ _ (ST _ ((A).alloc (A).size Dr)) (fun j=>?_);clear z K
  try simp only[QX]
  have a2:(((g).alloc Dr)).heap[g.heap.size]?=some Dr:=Bf g Dr;have a5:(((g).alloc Dr)).heap[f.heap.size]?=some (.cells (Dg x.code.length) 260 (0,0)):=Bk (stay a4 (Bf f.drew (.cells (Dg x.code.length) 260))) _;have a6:g.heap.size≠f.heap.size:=fun e=>by rw[e]at a2;exact Uu a2 a5 Ck
  have a7:Bl f (((g).alloc Dr)):=(A).alloc (A).size Dr;have a8:f.heap.size<=g.heap.size:=(A).size;have b3:f.heap.size<=f.heap.size:=(l).size
  rotate_left
  go_simp;clear j;refine z.out _ _ (ST _ (((l).alloc (l).size (.cells (Dg x.code.length) 260)).alloc ((l).alloc (l).size (.cells (Dg x.code.length) 260)).size Dr)) (fun j=>?_);clear z K
  try simp only[QX]
  refine tr 7 fun K z=>?_;go_simp;refine Qm (Ba b2 _) ?_;intro g a4;have A:Bl f g:=(((l).alloc (l).size (.cells (Dg x.code.length) 260)).alloc ((l).alloc (l).size (.cells (Dg x.code.length) 260)).size Dr).trans (a4.mono (((l).alloc (l).size (.cells (Dg x.code.length) 260)).alloc ((l).alloc (l).size (.cells (Dg x.code.length) 260)).size Dr).size)
  try dsimp only
  clear j;refine z.out _ _ (ST _ (A)) (fun j=>?_);clear z K
  try simp only[QX]
  refine tq 12 (.agg (B07 Q V Y Z a0 a1 I J ya yn yc cl nm pa pl pc r1 r2 lo L N x.code.length O ha a3 hc ma ml mc D F T.length (Cd.readL x.code).length (f.heap.size))) j ?_;have a2:(g).heap[f.heap.size+1]?=some Dr:=stay a4 (Bv f.drew (.cells (Dg x.code.length) 260) Dr);have a5:(g).heap[f.heap.size]?=some (.cells (Dg x.code.length) 260 (0,0)):=stay a4 (Bk (Bf f.drew (.cells (Dg x.code.length) 260)) _);have a6:f.heap.size+1≠f.heap.size:=fun e=>by rw[e]at a2;exact Uu a2 a5 Ck
  have a7:Bl f (g):=A;have a8:f.heap.size<=f.heap.size+1:=by have:=((l).alloc (l).size (.cells (Dg x.code.length) 260)).size;(try simp at this ⊢)<;>(try omega)
  have b3:f.heap.size<=f.heap.size:=(l).size
  rotate_left
  go_simp;clear j;refine z.out _ _ (ST _ ((l).alloc (l).size Dr)) (fun j=>?_);clear z K
  try simp only[QX]
  refine Bw7 (rs:=[7,11]) Le Fr ?_;refine Bv3 (o:=⟨_,_,_,_,_,_⟩) rfl (fun K z=>?_) (Bv3 (o:=⟨_,_,_,_,_,_⟩) rfl (fun K z=>?_) Bw2);go_simp;refine Qm (Ba b2 _) ?_;intro g a4;have A:Bl f g:=((l).alloc (l).size Dr).trans (a4.mono ((l).alloc (l).size Dr).size)
  try dsimp only
  clear j;refine z.out _ _ (ST _ (A)) (fun j=>?_);clear z K
  try simp only[QX]
  refine tr 11 fun K z=>?_;go_simp;clear j;refine z.out _ _ (ST _ ((A).alloc (A).size (.cells (Dg x.code.length) 260))) (fun j=>?_);clear z K
  try simp only[QX]
  refine tq 12 (.agg (B07 Q V Y Z a0 a1 I J ya yn yc cl nm pa pl pc r1 r2 lo L N x.code.length O ha a3 hc ma ml mc D F T.length (Cd.readL x.code).length (g.heap.size))) j ?_;have a2:(((g).alloc (.cells (Dg x.code.length) 260))).heap[f.heap.size]?=some Dr:=Bk (stay a4 (Bf f.drew Dr)) _;have a5:(((g).alloc (.cells (Dg x.code.length) 260))).heap[g.heap.size]?=some (.cells (Dg x.code.length) 260 (0,0)):=Bf g (.cells (Dg x.code.length) 260);have a6:f.heap.size≠g.heap.size:=fun e=>by rw[e]at a2;exact Uu a2 a5 Ck
  have a7:Bl f (((g).alloc (.cells (Dg x.code.length) 260))):=(A).alloc (A).size (.cells (Dg x.code.length) 260);have a8:f.heap.size<=f.heap.size:=(l).size;have b3:f.heap.size<=g.heap.size:=(A).size
  rotate_left
  go_simp;clear j;refine z.out _ _ (ST _ (((l).alloc (l).size Dr).alloc ((l).alloc (l).size Dr).size (.cells (Dg x.code.length) 260))) (fun j=>?_);clear z K
  try simp only[QX]
  refine tr 7 fun K z=>?_;go_simp;refine Qm (Ba b2 _) ?_;intro g a4;have A:Bl f g:=(((l).alloc (l).size Dr).alloc ((l).alloc (l).size Dr).size (.cells (Dg x.code.length) 260)).trans (a4.mono (((l).alloc (l).size Dr).alloc ((l).alloc (l).size Dr).size (.cells (Dg x.code.length) 260)).size)
  try dsimp only
  clear j;refine z.out _ _ (ST _ (A)) (fun j=>?_);clear z K
  try simp only[QX]
  refine tq 12 (.agg (B07 Q V Y Z a0 a1 I J ya yn yc cl nm pa pl pc r1 r2 lo L N x.code.length O ha a3 hc ma ml mc D F T.length (Cd.readL x.code).length (f.heap.size+1))) j ?_;have a2:(g).heap[f.heap.size]?=some Dr:=stay a4 (Bk (Bf f.drew Dr) _);have a5:(g).heap[f.heap.size+1]?=some (.cells (Dg x.code.length) 260 (0,0)):=stay a4 (Bv f.drew Dr (.cells (Dg x.code.length) 260));have a6:f.heap.size≠f.heap.size+1:=fun e=>by rw[e]at a2;exact Uu a2 a5 Ck
  have a7:Bl f (g):=A;have a8:f.heap.size<=f.heap.size:=(l).size;have b3:f.heap.size<=f.heap.size+1:=by have:=((l).alloc (l).size Dr).size;(try simp at this ⊢)<;>(try omega)
  rotate_left
  all_goals
   refine tr 14 fun K z=>?_;refine Fv Hd 187 _ _ Hd _ _ Hd Hd 187 _ a2 (by exact Tryz.infoSearch) Hd (by simp[Value.oneCell']) ?_;clear j;refine z.out _ _ (Ek ((Ce (by have:=Pk b6;omega)).trans (stay a7 b6)) ((Ce (by have:=Pk b7;omega)).trans (stay a7 b7)) ((Ce (by have:=Pk b1;omega)).trans (stay a7 b1))) (fun j=>?_);clear z K
   try simp only[Act.put]
   refine Bv9 Le ?_ _;go_wp2
   go_meet
   case rel=>exact⟨_,_,rfl,Li a2,(Ce (fun e=>a6 e.symm)).trans a5,a6,a8,b3,Nt a7 a8 _⟩
 case rest=>
  obtain⟨S,G,rfl,hS,hG,a6,j5,j6,b8⟩:=hcut;have f8:=QB c7 b8;have j7:=c7.size;have L3:=Ed.made (b:=⟨Q,Y,Z,V,a0,a1,I,J,ya,yn,yc,cl,nm,pa,pl,pc,r1,r2,lo,L,N,x.code.length,O,ha,a3,hc,ma,ml,mc,D,F,T,Cd.readL x.code⟩) hS hG a6 c2;have c8:=stay b8 b1;have f9:=f7.kp (Kp.of_below (e:=none) b8) Ck;have c9:w.heap.size<=S:=Bd;have d0:w.heap.size<=G:=Bd;clear hS hG b6 b7 b1 l b2 c7 b8 f7 a6;obtain⟨m0,m1,m2,m3,m4,m5,m6,m7,m8,m9⟩:=N7 c8;have lM:=Pk c8;simp at m0 m1 m2 m3 m4 m5 m6 m7 m8 m9;go_wp2_with fail;refine(Ba f5 _ f8).mono ?_;rintro e w4 ⟨u,rfl,g0,d1⟩;obtain⟨ua,un,uc,va,vn,vc⟩:=u;have b9:Bl wc (w4.alloc (O24 ua un uc va vn vc)):=d1.alloc d1.size _;have L4:=L3.below b9;have d2:=QB f8 b9;have g1:=f9.kp (Kp.of_below (e:=none) b9) Ck;have g2:=g0.below (QN (O24 ua un uc va vn vc));have d3:=Bf w4 (O24 ua un uc va vn vc);have d4:=Ba f4 D F S G _ ⟨ua,un,uc,va,vn,vc⟩ x0 _ (hT.below d2) L4 g2;simp only[FrV.val]at d4;have g3:=Bc d4;obtain⟨c0,c1⟩:=cl2 d3;have lC:=Pk d3;simp at c0 c1;clear d4 L3 c8 f9 g0 d1 b9 m0 m1 m2 m3 m4 m5 m6 m7 m8 m9 lM;go_wp2_with fail;refine Qm (Ba g3) ?_;rintro g ⟨L5,K5⟩;have g4:Hs g bb (.s D (Cd.readL x.code).length F) (Cd.readL x.code):=Z8 g1 L4 K5 Ck Ck;have g5:=d2.trans (K5.below c9 d0 d2.size);clear L4 K5 g1 g2 d3 c0 c1 lC g3 f4 f5;generalize D9 T L x0 0 ⟨List.replicate x.code.length Jz,false⟩=t0 at *;obtain⟨ME,g6,g7⟩:=Btm mu S G ⟨Q,Y,Z,V,a0,a1,I,J,ya,yn,yc,cl,nm,pa,pl,pc,r1,r2,lo,L,N,x.code.length,O,ha,a3,hc,ma,ml,mc,D,F,T,Cd.readL x.code⟩ x.code.length;have g8:=Bc g6;have i3:=Bc g7;clear g6 g7;go_wp2
  go_loopw [13] (fun d5 wr=>∃(t:Bt) (ag:Bool),d5=.bool ag/\Hid (OK t)/\Hid ((if ag=true then done t else t)=R) /\
    Ed wr S G ⟨Q,Y,Z,V,a0,a1,I,J,ya,yn,yc,cl,nm,pa,pl,pc,r1,r2,lo,L,N,x.code.length,O,ha,a3,hc,ma,ml,mc,D,F,T,Cd.readL x.code⟩ x.code.length t/\Hs wr bb (.s D (Cd.readL x.code).length F) (Cd.readL x.code)/\Bl w wr/\True)
   (fun d5 wr=>ME d5 wr)
  case atStart=>exact⟨t0,true,rfl,H0,by unfold Hid;rw[Sp rfl];exact Ba HR,L5,g4,g5,trivial⟩
  case round=>
   clear L5 g4 g5 H0 HR;obtain⟨t,ag,rfl,HO,HT,L6,d6,a9,-⟩:=hrel;cases ag with
   | true =>
    have d7:=Ba h9 D F bb S G t _ a9 c9 d0 d6 (Ba HO) L6;have g9:=Ba i0 t (Ba HO);have b0:=Ba i1 t (Ba HO);have h1:=Ba g8 _ _ L6;have hr:=Ba HT;rw[Sp rfl,g9]at hr;generalize hP:Ct lk (Cd.readL x.code) false t=P at *;obtain⟨P1,P2⟩:=P;simp only at d7 hr b0;generalize (P2 && !P1.hop)=ag at *;have i4:=Bc d7;have i5:Hid ((if ag=true then done P1 else P1)=R):=hr
    have i6:=Bc b0;have i7:=Bc h1;clear d7 g9 b0 hr hP HT h1;go_wp2_with fail;refine Qm (Ba i4) ?_;rintro w7 ⟨L7,h2,K7⟩;have i8:Hs w7 bb (.s D (Cd.readL x.code).length F) (Cd.readL x.code):=Z8 d6 L6 K7 Ck Ck;have i9:=a9.trans (K7.below c9 d0 a9.size);have j0:=Bc h2;clear L6 d6 a9 K7 HO h2;go_wp2;go_roundw
    case rel=>exact⟨P1,ag,rfl,j0,i5,L7,i8,i9,trivial⟩
    case measure=>
     rw[Ba i7];cases ag with
     | false=>rw[Ba i3];omega
     | true=>rw[Ba g8 _ _ L7];have:=Ba i6 rfl;omega
   | false =>
    have hr:t=R:=by have:=Ba HT;simpa using this
    subst hr;have d8:=Bb L6.blk 29;have j8:=Pk L6.blk;simp at d8;clear HT;cases hh:t.hop with
    | true =>
     rw[hh]at d8;have HH:=Bc hh;clear hh;go_wp2;refine tb (.tuple #[.s none 0 0,.bool false]) (by simp[results,results70,go_sem]) ?_;exact⟨none,0,0,by rw[Ba HH];rfl,fun h=>(by rw[Ba HH]at h;cases h),a9⟩
    | false =>
     rw[hh]at d8;have HH:=Bc hh;have h3:=Bnr _ S G _ t _ L6;have j1:=Bc h3;clear hh h3;go_wp2_with fail;refine(Ba j1).mono ?_;rintro e w8 ⟨a,n,c,ms,rfl,j2,h4,j3⟩;go_wp2;refine tb (.tuple #[.s a n c,.bool true]) (by simp[results,results70,go_sem]) ?_;have h5:=a9.size;exact⟨a,n,c,by rw[Ba HH];rfl,fun _=>⟨ms,j2,D8 h4.1 h5,h4.2⟩,a9.trans (j3.mono h5)⟩
def TyR.wg{n:Nat}{b:TW}{i:TX}{q:TP}(h:TyR w i q)(p:WG n w b):TyR b i q:=by
 rcases h with h|⟨g,o,c,e,s,f,t,z,A⟩
 ·exact .inl h
 have m:=p.kp g e _ f Ck Ck;refine .inr ⟨g,o,c,e,s,m,t,z,fun j x B=>?_⟩;rw[Bb m,<- Bb f];exact A j x B
def Sz.wg{n:Nat}{i:TX}{l:List (Rd.Mp×Value×Value)}{b:TW}(h:Sz w s i l)(c:WG n w b):Sz b s i l :=
 ⟨Lx h.1 c Ck Ck,fun p e=>⟨(h.2 p e).1.wg c,(h.2 p e).2.wg c⟩⟩
def Bag(n B:Nat)(l:TB)(b:TP)(a:TA)(m c:Nat)(w:TW)(hl:l.length+2*b.length<=100000)(Y:J7 w n B l)(A:TyR w (.s a m c) b):Calls prog 72 #[.q B 0,.s a m c] w fun e C=>e=.r (.tuple #[])/\J7 C n B (l++Fh b)/\WG n w C:=by
 obtain⟨Z,-,-⟩:=A.cap;subst Z;go_in;go_wp2
 go_loopw [8] (fun v wr=>∃k:Nat,k<=b.length/\v=.i (k:Int)/\J7 wr n B (l++Fh (b.take k))/\WG n w wr)
  (fun v _=>b.length-(intOf v).toNat)
 case atStart=>exact⟨0,Bd,rfl,by simpa[Fh] using Y,WG.refl n w⟩
 case round=>
  obtain⟨k,hk,rfl,f,h⟩:=hrel;have a2:=f.lt;by_cases D:k<b.length
  ·obtain⟨g,o,hg,a3,F⟩:=(A.wg h).at Bd;obtain⟨G,I⟩:=F k D;have J:b.take (k+1)=b.take k++[b[k]]:=by rw[Bvs D]
   have K:(b.take k).length=k:=Fm;generalize b[k]=t at *;obtain⟨j,p⟩:=t;simp only at G I;have z:=Kf (b.take k);rw[K]at z;have HD:Hid (l++Fh (b.take (k+1))=l++Fh (b.take k)++N8 (j,p)):=by unfold Hid;rw[J];simp[Fh]
   have a0:(l++Fh (b.take k)).length+2<=100000:=by rw[Up,z];omega
   generalize l++Fh (b.take k)=L at *;have N:=f.alloc (O7 j p);have O:=h.alloc Bd (O7 j p);clear F J K z;subst hg;go_wp2_with fail;refine Qm (Bc3 n B L j p _ a0 N) ?_;rintro w2 ⟨Q,V⟩;have a1:=O.trans V;rw[<- Ba HD]at Q;clear G I V O h N f;go_wp2;go_roundw
   case rel=>exact⟨k+1,Bd,Lt,Q,a1⟩
   case measure=>simp[intOf];omega
  have e:b.take k=b:=Bv0 Bd;rw[e]at f;go_wp2;go_end0;exact⟨rfl,f,h⟩
def Bjw(n B b:Nat)(l:TB)(f:List (Rd.Mp×Value×Value))(a:TA)(m c:Nat)(w:TW)(hl:l.length+(Uw (f.map Prod.fst)).length<=100000)(hW:J7 w n B l)(V:Sz w b (.s a m c) f):Calls prog 116 #[.q B 0,.s a m c] w fun e w'=>e=.r (.tuple #[])/\J7 w' n B (l++Uw (f.map Prod.fst))/\WG n w w':=by
 obtain⟨xa,xc,a4⟩:=Bg V.1;simp only[Value.slice.injEq]at a4;obtain⟨rfl,b8,rfl⟩:=a4;subst b8;unfold Uw at hl ⊢;rw[Bvo]at hl;rw[Bvr];have c1:f.length<=100000:=by
  have:∀r:List (Rd.Mp×Value×Value),r.length<=((r.map Prod.fst).flatMap Lk).length:=by
   intro r
   induction r with
   | nil=>simp
   | cons x r ih=>simp only[Bwm,Bwj,Up,Bvo,Lk];omega
  have:=this f;omega
 generalize a5:Cm (f.length:Int)=C;have b9:=Bc a5;clear a5;go_in
 (go_wp2_with fail);refine Qm (Gg n B l (f.length:Int) _ Bd hW) ?_;rintro w1 ⟨A,a6⟩
 rw[Ba b9]at A;go_wp2
 go_loopw [12] (fun v wr=>∃k:Nat,k<=f.length/\v=.i (k:Int)/\J7 wr n B (l++[C]++((f.take k).map Prod.fst).flatMap Lk)/\WG n w wr)
  (fun v _=>f.length-(intOf v).toNat)
 case atStart=>exact⟨0,Bd,rfl,by simpa using A,a6⟩
 case round=>
  clear A a6;obtain⟨k,hk,rfl,D,F⟩:=hrel;have c4:=D.lt;by_cases j:k<f.length
  ·obtain⟨g,hg,c5,c0,G⟩:=Cf (Lx V.1 F Ck Ck) Bd;have x0:=(G _ (Vl f k j 0 Bd).2).trans (Vl f k j 0 Bd).1;have x1:=(G _ (Vl f k j 1 Bd).2).trans (Vl f k j 1 Bd).1;have x2:=(G _ (Vl f k j 2 Bd).2).trans (Vl f k j 2 Bd).1;have hd:f.take (k+1)=f.take k++[f[k]]:=by rw[Bvs j]
   have a7:=Bls f k j;have a8:=V.2 _ (Bvh j);generalize f[k]=t at *;obtain⟨⟨z,p,h⟩,u2,u3⟩:=t;simp at x0 x1 x2;simp only at a8;obtain⟨a9,b1⟩:=a8;obtain⟨I,J,rfl⟩:=a9.shape;obtain⟨K,N,rfl⟩:=b1.shape;simp only[Lk,Bvo,Up,Kf]at a7;have HD:Hid (l++[C]++((f.take (k+1)).map Prod.fst).flatMap Lk=l++[C]++((f.take k).map Prod.fst).flatMap Lk++[Cm z]++Fh p++[Cm (h.length:Int)]++Fh h):=by unfold Hid;rw[hd];simp[Lk]
   have c6:(l++[C]++((f.take k).map Prod.fst).flatMap Lk).length+1+2*p.length+1+2*h.length<=100000:=by rw[Up,Up];simp only[Bvo,Bwn];omega
   generalize l++[C]++((f.take k).map Prod.fst).flatMap Lk=L at *;have A:=D.alloc (O17 z I p.length J K h.length N);have C1:=Bf wr (O17 z I p.length J K h.length N);have b2:=F.alloc Bd (O17 z I p.length J K h.length N);clear G hd c0 a7;subst hg
   (go_wp2_with fail);refine Qm (Gg n B L z _ Bd A) ?_;rintro w2 ⟨b3,Y⟩
   have O:=Y.kp _ _ _ C1 Ck Ck;have Z:=b2.trans Y;have y1:=Bb O 1;have l2:=Pk O;simp at y1;go_wp2_with fail;refine Qm (Bag n B (L++[Cm z]) p I p.length J _ Fm b3 (a9.wg Z)) ?_;rintro w3 ⟨b4,a0⟩;have Q:=a0.kp _ _ _ O Ck Ck;have G3:=Z.trans a0;have y2:=Bb Q 2;have l3:=Pk Q;simp at y2
   (go_wp2_with fail);refine Qm (Gg n B (L++[Cm z]++Fh p) (h.length:Int) _ (by simp only[Up,Kf,Bvo,Bwn];omega) b4) ?_;rintro w4 ⟨b5,a1⟩
   have C4:=a1.kp _ _ _ Q Ck Ck;have G4:=G3.trans a1;have z2:=Bb C4 2;have l4:=Pk C4;simp at z2;go_wp2_with fail;refine Qm (Bag n B (L++[Cm z]++Fh p++[Cm (h.length:Int)]) h K h.length N _ (by simp only[Up,Kf,Bvo,Bwn];omega) b5 (b1.wg G4)) ?_;rintro w5 ⟨b6,b7⟩;have G5:=G4.trans b7;rw[<- Ba HD]at b6;clear x0 x1 x2 y1 y2 z2 l2 l3 l4 C1 O Q C4 Y a0 a1 b7 b2 F A b3 b4 b5 D Z G3 G4;go_wp2;go_roundw
   case rel=>exact⟨k+1,Bd,Lt,b6,G5⟩
   case measure=>simp[intOf];omega
  have e:f.take k=f:=Bv0 Bd;rw[e]at D;go_wp2;go_end0;exact⟨rfl,by simpa using D,F⟩
structure PM.isR(m:PM)(x:Rd.Mth)(w:World)(bb:Nat):Prop where
 cl:m.cl=x.cl
 nm:m.nm=x.name
 r1:m.r1=x.result.1
 r2:m.r2=x.result.2
 lo:m.lo=x.locals
 st:m.st=x.stack
 pl:m.pl=x.params.length
 ps:Dp w bb (.slice m.pa m.pl m.pc) x.params
 cn:m.cn=x.code.length
 code:Du w bb (.slice m.ca m.cn m.cc) x.code
 hl:m.hl=x.handlers.length
 hs:J5 w bb (.slice m.ha m.hl m.hc) x.handlers
 ml:m.ml=x.maps.length
 mp:∃l,l.map Prod.fst=x.maps/\Sz w bb (.slice m.ma m.ml m.mc) l
def PM.isR.below{m:PM}{x:Rd.Mth}{f:TW}(h:m.isR x w u)(g:Bl w f):m.isR x f u:=by
 obtain⟨i,j,p,q,s,t,v,z,A,B,C,D,F,l,G,I⟩:=h;have c:=Kp.of_below (e:=none) (b:=u) g;exact⟨i,j,p,q,s,t,v,z.kp c Ck,A,B.kp c Ck,C,D.kp c Ck,F,l,G,I.below g⟩
def Bfs(n B Z:Nat)(l:TB)(m:PM)(x:Rd.Mth)(w:TW)(hl:l.length+(Ks x).length<=100000)(hW:J7 w n B l)(hm:m.isR x w Z):Calls prog 73 #[.q B 0,m.val] w fun e w'=>e=.r (.tuple #[])/\J7 w' n B (l++Ks x)/\WG n w w':=by
 rw[Bcz]at hl;generalize C:l++Ks x=R;unfold Ks Bdk at C;obtain⟨e1,e2,e3,e4,e5,e6,e7,a2,e8,a3,e9,b3,c8,lm,b4,b5⟩:=hm;have b6:x.result=(m.r1,m.r2):=by rw[e3,e4]
 rw[b6,<- e1,<- e2,<- e5,<- e6]at C;rw[<- b4]at C hl;generalize x.params=c at *;generalize x.code=b at *;generalize x.handlers=z at *;clear b6 e1 e2 e3 e4 e5 e6 c8 b4 x;obtain⟨f,h,F,pl,G,j,p,s,A,ca,cn,cc,I,f6,J,K,N,O⟩:=m;simp only at C a2 a3 b3 b5 e7 e8 e9;simp only[PM.val];subst e7 e8 e9;have HR:=Bc C;clear C;have f7:=hW.lt;have tl:=Kf c;have f8:(N8 (j,p)).length=2:=rfl;have C0:=Bf w (O18 f h F c.length G j p s A ca b.length cc I z.length J K N O);have G0:=(WG.refl n w).alloc Bd (O18 f h F c.length G j p s A ca b.length cc I z.length J K N O);have b7:=hW.alloc (O18 f h F c.length G j p s A ca b.length cc I z.length J K N O);go_in
 (go_wp2_with fail);refine Qm (Gg n B l f _ Bd b7) ?_;rintro w1 ⟨b8,a4⟩
 have C1:=a4.kp _ _ _ C0 Ck Ck;have G1:=G0.trans a4;have d1:=Pk C1;have y1:=Bb C1 1;simp at y1;clear b7 hW
 (go_wp2_with fail);refine Qm (Gg n B (l++[Cm f]) h _ (by (simp;omega)) b8) ?_;rintro w2 ⟨b9,a5⟩
 have C2:=a5.kp _ _ _ C1 Ck Ck;have G2:=G1.trans a5;have d2:=Pk C2;have y2:=Bb C2 2;simp at y2;clear y1 b8 d1
 (go_wp2_with fail);refine Qm (Gg n B (l++[Cm f]++[Cm h]) (c.length:Int) _ (by (simp;omega)) b9) ?_;rintro w3 ⟨c0,a6⟩
 have C3:=a6.kp _ _ _ C2 Ck Ck;have G3:=G2.trans a6;have d3:=Pk C3;have y3:=Bb C3 2;simp at y3;clear y2 b9 d2;go_wp2_with fail;refine Qm (Bbt n B Z (l++[Cm f]++[Cm h]++[Cm (c.length:Int)]) c F c.length G _ (by (simp;omega)) c0 (Lx a2 G3 Ck Ck)) ?_;rintro w4 ⟨c1,a7⟩;have Q:=a7.kp _ _ _ C3 Ck Ck;have G4:=G3.trans a7;have d4:=Pk Q;have y4:=Bb Q 3;have y5:=Bb Q 4;simp at y4 y5;clear y3 c0 d3 a2;go_wp2_with fail;refine Qm (Bc3 n B (l++[Cm f]++[Cm h]++[Cm (c.length:Int)]++Fh c) j p _ (by (simp;omega)) c1) ?_;rintro w5 ⟨c2,a8⟩;have C5:=a8.kp _ _ _ Q Ck Ck;have G5:=G4.trans a8;have d5:=Pk C5;have y6:=Bb C5 5;simp at y6;clear y4 y5 c1 d4
 (go_wp2_with fail);refine Qm (Gg n B (l++[Cm f]++[Cm h]++[Cm (c.length:Int)]++Fh c++N8 (j,p)) s _ (by (simp;omega)) c2) ?_;rintro w6 ⟨c3,a9⟩
 have C6:=a9.kp _ _ _ C5 Ck Ck;have G6:=G5.trans a9;have d6:=Pk C6;have y7:=Bb C6 6;simp at y7;clear y6 c2 d5
 (go_wp2_with fail);refine Qm (Gg n B (l++[Cm f]++[Cm h]++[Cm (c.length:Int)]++Fh c++N8 (j,p)++[Cm s]) A _ (by (simp;omega)) c3) ?_;rintro w7 ⟨c4,b0⟩
 have C7:=b0.kp _ _ _ C6 Ck Ck;have G7:=G6.trans b0;have d7:=Pk C7;have y8:=Bb C7 7;simp at y8;clear y7 c3 d6;have c9:=Lx a3 G7 Ck Ck;have f9:b.length<=100000:=Bd
 (go_wp2_with fail);refine Qm (Gg n B (l++[Cm f]++[Cm h]++[Cm (c.length:Int)]++Fh c++N8 (j,p)++[Cm s]++[Cm A]) (b.length:Int) _ (by (simp;omega)) c4) ?_;rintro w8 ⟨c5,b1⟩
 have C8:=b1.kp _ _ _ C7 Ck Ck;have G8:=G7.trans b1;have d8:=Pk C8;have y9:=Bb C8 7;simp at y9;clear y8 c4 d7 G0 G1 G2 G3 G4 G5 G6 G7 C0 C1 C2 C3 Q C5 C6 C7 a4 a5 a6 a7 a8 a9 b0 b1 c9;have g0:(l++[Cm f]++[Cm h]++[Cm (c.length:Int)]++Fh c++N8 (j,p)++[Cm s]++[Cm A]++[Cm (b.length:Int)]).length+b.length+(Pw z).length+(Uw (lm.map Prod.fst)).length<=100000:=by (simp;omega)
 have d0:Hid ((l++[Cm f]++[Cm h]++[Cm (c.length:Int)]++Fh c++N8 (j,p)++[Cm s]++[Cm A]++[Cm (b.length:Int)])++b.map Cm++Pw z++Uw (lm.map Prod.fst)=R):=by
  unfold Hid;rw[<- Ba HR];simp
 clear HR;generalize (l++[Cm f]++[Cm h]++[Cm (c.length:Int)]++Fh c++N8 (j,p)++[Cm s]++[Cm A]++[Cm (b.length:Int)])=L at *;go_wp2
 go_loopw [43] (fun v wr=>∃k:Nat,k<=b.length/\v=.i (k:Int)/\J7 wr n B (L++(b.take k).map Cm)/\WG n w wr/\wr.heap[w.heap.size]?=some (O18 f h F c.length G j p s A ca b.length cc I z.length J K N O))
  (fun v _=>b.length-(intOf v).toNat)
 case atStart=>exact⟨0,Bd,rfl,by simpa using c5,G8,C8⟩
 case round=>
  clear c5 G8 C8 d8;obtain⟨k,hk,rfl,a0,V,Y⟩:=hrel;have dC:=Pk Y;by_cases b2:k<b.length
  ·obtain⟨g,hg,g1,f0,c6⟩:=Cf (Lx a3 V Ck Ck) Bd;have x0:=c6 k (by simpa using b2);rw[Bv8,Ws b2]at x0;have hd:b.take (k+1)=b.take k++[b[k]]:=by rw[Bvs b2]
   have c7:(b.take k).length=k:=Fm;generalize b[k]=t at *;simp at x0;have HD:Hid (L++(b.take (k+1)).map Cm=L++(b.take k).map Cm++[Cm t]):=by unfold Hid;rw[hd];simp
   have f1:(L++(b.take k).map Cm).length<=100000:=by rw[Up,Bvr,c7];omega
   generalize L++(b.take k).map Cm=LK at *;clear c6 hd f0 c7 y9;subst hg;go_wp2_with fail;refine Qm (Gg n B LK t _ f1 a0) ?_;rintro w9 ⟨a1,D⟩;have f2:=V.trans D;have f3:=D.kp _ _ _ Y Ck Ck;rw[<- Ba HD]at a1;clear x0 D V a0 Y;go_wp2;go_roundw
   case rel=>exact⟨k+1,Bd,Lt,a1,f2,f3⟩
   case measure=>simp[intOf];omega
  have e:b.take k=b:=Bv0 Bd;rw[e]at a0;have z7:=Bb Y 8;simp at z7;go_wp2_with fail;refine Qm (Be7 n B Z (L++b.map Cm) z I z.length J _ (by (simp;omega)) a0 (Lx b3 V Ck Ck)) ?_;rintro w9 ⟨a1,D⟩;have G9:=V.trans D;have C9:=D.kp _ _ _ Y Ck Ck;have z8:=Bb C9 9;have d9:=Pk C9;simp at z8;go_wp2_with fail;refine Qm (Bjw n B Z (L++b.map Cm++Pw z) lm K N O _ (by (simp;omega)) a1 (b5.wg G9)) ?_;rintro g2 ⟨f4,f5⟩;go_wp2;go_end0;exact⟨rfl,by rw[<- Ba d0];exact f4,G9.trans f5⟩
def Sy (w:TW)(b:Nat)(m:Rd.Mth)(u:Eh):Prop :=
 Dp w b u.params m.params/\Du w b u.code m.code/\J5 w b u.handlers m.handlers/\∃l,l.map Prod.fst=m.maps/\Sz w b u.maps l
def Uk (w:TW)(b:Nat)(v:TX)(l:List (Rd.Mth × Eh)):Prop :=
 w.ownsRow b 133 10 v l.length (Kw l)/\∀p∈l,Sy w b p.1 p.2
def Sy.wg{n:Nat}{F:Rd.Mth}{u:Eh}{b:TW}(h:Sy w s F u)(e:WG n w b):Sy b s F u:=by
 obtain⟨a,c,d,q,g,f⟩:=h;exact⟨Lx a e Ck Ck,Lx c e Ck Ck,Lx d e Ck Ck,q,g,f.wg e⟩
def Uk.wg{n:Nat}{i:TX}{L:List (Rd.Mth×Eh)}{b:TW}(h:Uk w s i L)(c:WG n w b):Uk b s i L :=
 ⟨Lx h.1 c Ck Ck,fun p e=>(h.2 p e).wg c⟩
theorem Uk.mth{w:World}{a:Option Addr}{n:Nat}{L:List (Rd.Mth×Eh)}(h:Uk w u (.slice a n j) L){k:Nat}(A:k<L.length):∃(m:PM) (g:Nat),a=some ⟨g,0,none⟩/\g<w.heap.size/\(∀e v,m.list[e]?=some v->w.cell? ⟨g,k*10+e,none⟩=some v)/\m.isR L[k].1 w u:=by
 obtain⟨B,I⟩:=h;obtain⟨xa,xc,C⟩:=Bg B;simp only[Value.slice.injEq]at C;obtain⟨rfl,rfl,rfl⟩:=C;obtain⟨g,J,K,_,N⟩:=Cf B Bd;obtain⟨i,p,q,s,D,t⟩:=I _ (Bvh A);have F:=fun e z=>Bp7 L k A e z;generalize L[k]=x at *;obtain⟨x,f⟩:=x;obtain⟨up,uc,uh,um⟩:=f;simp only at i p q t F;obtain⟨O,Q,rfl⟩:=Bg i;obtain⟨V,Y,rfl⟩:=Bg p;obtain⟨Z,a0,rfl⟩:=Bg q;obtain⟨ma,mc,rfl⟩:=Bg t.1;have a1:s.length=x.maps.length:=by rw[<- D];simp
 refine⟨⟨x.cl,x.name,O,x.params.length,Q,x.result.1,x.result.2,x.locals,x.stack,V,x.code.length,Y,Z,x.handlers.length,a0,ma,s.length,mc⟩,g,J,K,?_,⟨rfl,rfl,rfl,rfl,rfl,rfl,rfl,i,rfl,p,rfl,q,a1,s,D,t⟩⟩;intro e v G;have z:e<10:=by
  have:=(List.getElem?_eq_some_iff.1 G).1;simpa[PM.list] using this
 obtain⟨e1,e2⟩:=F e z;rw[N _ e2,e1,<- G];rfl
def Blr(L N:TA)(O Q bm:Nat)(b:List (Rd.Cls×Value))(c:List (Rd.Mth×Eh))(w:TW)(hl:(Ux ⟨b.map Prod.fst,c.map Prod.fst⟩).length<=100000) (f7:b.length<=1000)(f8:c.length<=1000)(d9:Ex w bm (.s L b.length O) b)(f0:Uk w bm (.s N c.length Q) c):Calls prog 47 #[.agg #[.s L b.length O,.s N c.length Q]] w fun e w'=>e=.r (.string ⟨(Ux ⟨b.map Prod.fst,c.map Prod.fst⟩).toArray⟩)/\Bl w w':=by
 generalize hR:Ux ⟨b.map Prod.fst,c.map Prod.fst⟩=R at *;unfold Ux Bbq at hR;simp only[Bvr,List.flatMap_map]at hR;generalize B:b.flatMap (fun p=>Nf p.1)=CB at *;generalize hM:c.flatMap (fun p=>Ks p.1)=MB at *;have HR:=Bc hR;have f1:R.length=4+CB.length+MB.length:=by rw[<- hR];simp;omega
 have HC:=Bc B;have HM:=Bc hM;clear hR B hM;have C0:=Cb w (O1 L b.length O N c.length Q) (O21 none 0 0);have D0:=Bv w (O1 L b.length O N c.length Q) (O21 none 0 0);have G0:=((WG.refl w.heap.size w).alloc (Wf _) (O1 L b.length O N c.length Q)).alloc Fr (O21 none 0 0);have b1:J7 ((w.alloc (O1 L b.length O N c.length Q)).alloc (O21 none 0 0)) w.heap.size (w.heap.size+1) []:=⟨_,D0,Bd,Bvl _ _ _ _⟩;clear D0;go_in
 (go_wp2_with fail);refine Qm (Gg w.heap.size (w.heap.size+1) [] 83 _ Fr b1) ?_;rintro w1 ⟨G,a6⟩
 have C1:=a6.kp _ _ _ C0 Ck Ck;have I:=G0.trans a6;clear b1 a6
 (go_wp2_with fail);refine Qm (Gg w.heap.size (w.heap.size+1) ([]++[Cm 83]) 77 _ Fr G) ?_;rintro w2 ⟨J,f⟩
 have V:=f.kp _ _ _ C1 Ck Ck;have G2:=I.trans f;have K:=Bb V 0;have d2:=Pk V;simp at K;clear G f
 (go_wp2_with fail);refine Qm (Gg w.heap.size (w.heap.size+1) ([]++[Cm 83]++[Cm 77]) (b.length:Int) _ Fr J) ?_;rintro w3 ⟨a2,C⟩
 have Y:=C.kp _ _ _ V Ck Ck;have G3:=G2.trans C;have x1:=Bb Y 0;have d3:=Pk Y;simp at x1;clear J C K C0 C1 V G0 I G2 d2;have HL:Hid ([]++[Cm 83]++[Cm 77]++[Cm (b.length:Int)]=[83,77,Cm (b.length:Int)]):=by unfold Hid;simp[Cm]
 generalize b2:[]++[Cm 83]++[Cm 77]++[Cm (b.length:Int)]=z at *;have f2:z.length=3:=by rw[<- b2];simp
 clear b2;go_wp2
 go_loopw [17] (fun v wr=>∃k:Nat,k<=b.length/\v=.i (k:Int)/\J7 wr w.heap.size (w.heap.size+1) (z++(b.take k).flatMap (fun p=>Nf p.1))/\WG w.heap.size w wr/\wr.heap[w.heap.size]?=some (O1 L b.length O N c.length Q))
  (fun v _=>b.length-(intOf v).toNat)
 case atStart=>exact⟨0,Bd,rfl,by simpa using a2,G3,Y⟩
 case round=>
  clear a2 G3 Y d3 x1;obtain⟨k,hk,rfl,l,A,B⟩:=hrel;have dC:=Pk B;have b3:=l.lt;by_cases D:k<b.length
  ·have a7:=d9.wg A;obtain⟨g,hg,b4,a8,a1⟩:=Cf a7.1 Bd;obtain⟨e1,e2,e3⟩:=Ns b k D;have K:=a1 (k*2) Bd;have x1:=a1 (k*2+1) Bd;rw[e1]at K;rw[e2]at x1;have a4:=a7.2 _ (Bvh D);have hd:b.take (k+1)=b.take k++[b[k]]:=by rw[Bvs D]
   have Z:=Zp (fun p:Rd.Cls×Value=>Nf p.1) b k D;rw[Ba HC]at Z;generalize b[k]=t at *;obtain⟨⟨F,m⟩,u⟩:=t;simp only at K x1 a4;obtain⟨ua,uc,rfl⟩:=Bg a4;simp only[Nf,Bvo,Kf]at Z;have HD:Hid (z++(b.take (k+1)).flatMap (fun p=>Nf p.1)=z++(b.take k).flatMap (fun p=>Nf p.1)++[Cm F]++[Cm (m.length:Int)]++Fh m):=by unfold Hid;rw[hd];simp[Nf]
   have b5:(z++(b.take k).flatMap (fun p=>Nf p.1)).length+2+2*m.length<=100000:=by rw[Up];simp only[Nf];omega
   generalize z++(b.take k).flatMap (fun p=>Nf p.1)=LK at *;have G:=l.alloc (O5 F ua m.length uc);have K1:=Bf wr (O5 F ua m.length uc);have I:=A.alloc Bd (O5 F ua m.length uc);have b6:=(WG.refl w.heap.size wr).alloc Bd (O5 F ua m.length uc);have C1:=Bk B (O5 F ua m.length uc);clear a1 e1 e2 e3 hd Z a8;subst hg
   (go_wp2_with fail);refine Qm (Gg w.heap.size (w.heap.size+1) LK F _ Bd G) ?_;rintro w2 ⟨J,f⟩
   have K2:=f.kp _ _ _ K1 Ck Ck;have V:=f.kp _ _ _ C1 Ck Ck;have y1:=Bb K2 1;have l2:=Pk K2;simp at y1
   (go_wp2_with fail);refine Qm (Gg w.heap.size (w.heap.size+1) (LK++[Cm F]) (m.length:Int) _ (by (simp;omega)) J) ?_;rintro w3 ⟨a2,C⟩
   have K3:=C.kp _ _ _ K2 Ck Ck;have Y:=C.kp _ _ _ V Ck Ck;have z1:=Bb K3 1;have l3:=Pk K3;simp at z1;have b7:=(b6.trans f).trans C;go_wp2_with fail;refine Qm (Bbt w.heap.size (w.heap.size+1) bm (LK++[Cm F]++[Cm (m.length:Int)]) m ua m.length uc _ (by (simp;omega)) a2 (Lx a4 b7 Ck Ck)) ?_;rintro w4 ⟨a3,a0⟩;have C4:=a0.kp _ _ _ Y Ck Ck;have G4:=((I.trans f).trans C).trans a0;rw[<- Ba HD]at a3;clear K x1 y1 z1 l2 l3 K1 K2 K3 C1 V Y f C a0 I b6 b7 A G J a2 l B a7 a4;go_wp2;go_roundw
   case rel=>exact⟨k+1,Bd,Lt,a3,G4,C4⟩
   case measure=>simp[intOf];omega
  have e:b.take k=b:=Bv0 Bd;rw[e,Ba HC]at l;have z1:=Bb B 1;simp at z1
  (go_wp2_with fail);refine Qm (Gg w.heap.size (w.heap.size+1) (z++CB) (c.length:Int) _ (by (simp;omega)) l) ?_;rintro w4 ⟨a3,a0⟩
  have C4:=a0.kp _ _ _ B Ck Ck;have G4:=A.trans a0;have y1:=Bb C4 1;have d4:=Pk C4;simp at y1;clear l A B a0 z1 dC b3;have f3:Hid (z++CB++[Cm (c.length:Int)]++MB=R):=by unfold Hid;rw[<- Ba HR,Ba HL]
  have f9:(z++CB++[Cm (c.length:Int)]).length=4+CB.length:=by simp[f2];omega
  generalize z++CB++[Cm (c.length:Int)]=L1 at *;go_wp2
  go_loopw [39] (fun v wr=>∃k:Nat,k<=c.length/\v=.i (k:Int)/\J7 wr w.heap.size (w.heap.size+1) (L1++(c.take k).flatMap (fun p=>Ks p.1))/\WG w.heap.size w wr)
   (fun v _=>c.length-(intOf v).toNat)
  case atStart=>exact⟨0,Bd,rfl,by simpa using a3,G4⟩
  case round=>
   clear a3 G4 C4 d4 y1 e hk D;obtain⟨q,hk,rfl,l,A⟩:=hrel;have b3:=l.lt;by_cases D:q<c.length
   ·obtain⟨o,g,hg,b4,a5,a9⟩:=(f0.wg A).mth D;replace a5:=Ub a5;have hd:c.take (q+1)=c.take q++[c[q]]:=by rw[Bvs D]
    have Z:=Zp (fun p:Rd.Mth×Eh=>Ks p.1) c q D;rw[Ba HM]at Z;generalize c[q]=t at *;obtain⟨y,u⟩:=t;simp only at Z a9;have HD:Hid (L1++(c.take (q+1)).flatMap (fun p=>Ks p.1)=L1++(c.take q).flatMap (fun p=>Ks p.1)++Ks y):=by unfold Hid;rw[hd];simp
    have b5:(L1++(c.take q).flatMap (fun p=>Ks p.1)).length+(Ks y).length<=100000:=by rw[Up];omega
    generalize L1++(c.take q).flatMap (fun p=>Ks p.1)=LK at *;have HC:=fun w' f4 (h:Below _ _ w')=>Bfs w.heap.size (w.heap.size+1) bm LK o y w' b5 f4 (a9.below h);clear hd Z a9;obtain⟨b8,b9,c0,c1,c2,c3,c4,c5,c6,c7,c8,c9,d0,d1,d5,d6,d7,d8⟩:=o;simp only[PM.val]at a5 HC;obtain⟨y0,y1,y2,y3,y4,y5,y6,y7,y8,y9⟩:=a5;have G:=l.alloc (O18 b8 b9 c0 c1 c2 c3 c4 c5 c6 c7 c8 c9 d0 d1 d5 d6 d7 d8);have I:=A.alloc Bd (O18 b8 b9 c0 c1 c2 c3 c4 c5 c6 c7 c8 c9 d0 d1 d5 d6 d7 d8);have hc:=HC _ G (QN _);have f5:=Bc hc;clear hc HC;subst hg;go_wp2_with fail;refine Qm (Ba f5) ?_;rintro w2 ⟨J,f⟩;have G2:=I.trans f;rw[<- Ba HD]at J;clear y0 y1 y2 y3 y4 y5 y6 y7 y8 y9 f I A G l;go_wp2;go_roundw
    case rel=>exact⟨q+1,Bd,Lt,J,G2⟩
    case measure=>simp[intOf];omega
   have e:c.take q=c:=Bv0 Bd;rw[e,Ba HM,Ba f3]at l;obtain⟨v,hb,_,b0⟩:=l;obtain⟨va,vc,rfl⟩:=Bg b0;obtain⟨g,hg,b4,a8,a1⟩:=Cf b0 Bd;subst hg;have hk:(convert 120 9 (.s (.p g) R.length vc)).run prog wr=.ok (.string ⟨R.toArray⟩) wr:=by
    refine run_convert_bytes_back (P:=prog) _ _ _ 5 _ vc R underlying120 underlying5 underlying9 ?_;intro j hj;have f6:(⟨g,0,none⟩:Addr).add j=⟨g,j,none⟩:=by unfold Addr.add;split<;>simp_all
    rw[f6,a1 j (by simpa[Ui] using hj)];simp[Ui,hj]
   have K:=Bb hb 0;have dB:=Pk hb;simp at K;clear a1 a8 b0;clear f1;go_wp2;go_ret;exact⟨rfl,A.bel⟩
def Rd.Mth.withMaps(m:Rd.Mth)(mp:List Rd.Mp):Rd.Mth:=⟨m.cl,m.name,m.params,m.result,m.locals,m.stack,m.code,m.handlers,mp⟩
def Fz (FM:Rd.Mth->Option (List Rd.Mp)):List Rd.Mth->Option (List Rd.Mth)
 | []=>some []
 | m::r=>match FM m with
  | none=>none
  | some mp=>(Fz FM r).map (m.withMaps mp :: ·)
def Na (FM:Rd.Mth->Option (List Rd.Mp)):Nat->List Rd.Mth->Int
 | _,[]=>0
 | k,m::r=>if (FM m).isSome=true then Na FM (k+1) r else (k:Int)
def TyR.kp0{b:TW}{i:TX}{q:TP}{O:Option TypeId}(h:TyR w i q)(s:Kp O 0 w b)(t:some 31≠O):TyR b i q:=by
 rcases h with h|⟨g,o,c,f,z,m,A,B,C⟩
 ·exact .inl h
 have p:=s g f _ (Bv5 _) m t;refine .inr ⟨g,o,c,f,z,p,A,B,fun j x D=>?_⟩;rw[Bb p,<- Bb m];exact C j x D
def Kp.up{b:TW}{O:Option TypeId}(f:Kp O 0 w b)(c:Nat):Kp O c w b:=fun k g t _ h i=>f k g t (Bv5 _) h i
def Sy.kp{F:Rd.Mth}{g:Eh}{b:TW}(h:Sy w u F g){e:Option TypeId}(i:Kp e 0 w b)(j:some 31≠e)(s:some 3≠e)(t:some 267≠e)(v:some 266≠e):Sy b u F g:=by
 obtain⟨a,c,d,q,z,f⟩:=h;exact⟨a.kp (i.up u) j,c.kp (i.up u) s,d.kp (i.up u) t,q,z,Cx f.1 (i.up u) v,fun p l=>⟨(f.2 p l).1.kp0 i j,(f.2 p l).2.kp0 i j⟩⟩
def Sy.below{F:Rd.Mth}{c:Eh}{b:TW}(h:Sy w u F c)(f:Bl w b):Sy b u F c :=
 h.kp (Kp.of_below (e:=none) f) Ck Ck Ck Ck
def Brp(N a2:TA)(O Q a3 V:Nat)(a5:List (Rd.Cls×Value))(f:List (Rd.Mth×Eh))(B:Rd.Mth->Option (List Rd.Mp))(w:TW)(j8:V<=w.heap.size)(h6:a5.length<=6)(f0:Ex w V (.s N O Q) a5)(j9:f.length<=1000)(f2:Eb w V (.s a2 f.length a3) f) (f3:∀p∈f,∀(Z tc:Nat) (ya:TA) (yn yc:Nat) (m:PM) j,Bl w j->Dl j Z (Tr.tree (a5.map Prod.fst))->j.ownsRow w.heap.size 105 1 (.s ya yn yc) (7+a5.length) (Tr.fvals a5)->m.is p.1 j V->Calls prog 70 #[.agg #[.s N O Q,.s a2 f.length a3],.agg #[.s (.p Z) (Tr.tree (a5.map Prod.fst)).length tc,.s ya yn yc],m.val] j fun e f4=>∃a n c,e=.r (.tuple #[.s a n c,.bool (B p.1).isSome])/\(∀mp,B p.1=some mp->∃ms,ms.map Prod.fst=mp/\Sz f4 j.heap.size (.s a n c) ms)/\Bl j f4):Calls prog 46 #[.agg #[.s N O Q,.s a2 f.length a3]] w fun e j=>∃ga gn gc t hn A,e=.r (.tuple #[.agg #[.s ga gn gc,.s t hn A],.i (Na B 0 (f.map Prod.fst)),.bool (Fz B (f.map Prod.fst)).isSome])/\(∀r,Fz B (f.map Prod.fst)=some r->ga=N/\gn=O/\gc=Q/\∃l,l.map Prod.fst=r/\Uk j V (.s t hn A) l)/\Bl w j:=by
 obtain⟨j0,hj,h7,h8,h9⟩:=Bv4 Tryz.infoMethod;have f5:=fun j (h:Bl w j)=>Sn N a2 O Q f.length a3 V a5 j h6 (f0.kp (Kp.of_below (e:=none) h) Ck Ck);have i0:Hid (∀j,Bl w j->Eb j V (.s a2 f.length a3) f):=fun j h=>f2.kp (Kp.of_below (e:=none) h) Ck Ck Ck Ck Ck;generalize f6:Fz B (f.map Prod.fst)=R1;generalize f7:Na B 0 (f.map Prod.fst)=R2;have a7:Hid ((Fz B ((f.map Prod.fst).drop 0)).map ([] ++ ·)=R1):=by unfold Hid;rw[<- f6];simp
 have a8:Hid (Na B 0 ((f.map Prod.fst).drop 0)=R2):=f7;have i1:=Bc f5;have i2:=Bc f3;clear f5 f3 f6 f7 f0 f2;have f8:=Bx w (O1 N O Q a2 f.length a3) (O1 none 0 0 none 0 0);have F0:=Cb w (O1 N O Q a2 f.length a3) (O1 none 0 0 none 0 0);have Z0:=Bv w (O1 N O Q a2 f.length a3) (O1 none 0 0 none 0 0);have f9:((w.alloc (O1 N O Q a2 f.length a3)).alloc (O1 none 0 0 none 0 0)).heap.size=w.heap.size+2:=Fr;go_in;go_wp2_with fail;refine(Ba i1 _ f8).mono ?_;rintro e w1 ⟨Z,tc,ya,yn,yc,rfl,g0,g1,i3,b2⟩;generalize Tr.tree (a5.map Prod.fst)=T at *;have c1:=QB f8 b2;have g2:=c1.size;have lZ:=Pk (stay b2 Z0);have F1:=Bk (stay b2 F0) (O2 (.p Z) T.length tc ya yn yc);have Z1:=Bk (stay b2 Z0) (O2 (.p Z) T.length tc ya yn yc);have T1:=Bf w1 (O2 (.p Z) T.length tc ya yn yc);have a9:=c1.alloc g2 (O2 (.p Z) T.length tc ya yn yc);have i4:=g0.below (QN (O2 (.p Z) T.length tc ya yn yc));have i5:=Ti (Cx g1 (Kp.of_below (e:=none) (QN (O2 (.p Z) T.length tc ya yn yc))) Ck) (show w.heap.size<=_ by rw[f9];omega);clear b2 F0 Z0 g0 g1 i3 lZ f9
 go_upto_region 2 with fail
 generalize w1.alloc (O2 (.p Z) T.length tc ya yn yc)=W1 at *;have f1:=Bb F1 1;have k0:=Pk F1;simp at f1;go_wp2
 go_loopw [6,16] (fun v s wr=>∃(q:Nat) (l:List (Rd.Mth×Eh)),q<=f.length/\s=.i (q:Int)/\l.length=q/\Hid ((Fz B ((f.map Prod.fst).drop q)).map (l.map Prod.fst ++ ·)=R1)/\Hid (Na B q ((f.map Prod.fst).drop q)=R2) /\
   wr.ownsRow W1.heap.size 133 10 v q (Kw l)/\Hid (∀p∈l,Sy wr V p.1 p.2)/\Bl W1 wr)
  (fun _ s _=>f.length-(intOf s).toNat)
 case atStart=>exact⟨0,[],Bd,rfl,rfl,a7,a8,Bvl _ _ _ _,(fun p Y=>by simp at Y),Vm _ _⟩
 case round=>
  clear a7 a8 f1 c1 g2;obtain⟨q,l,hq,rfl,g3,a7,a8,b5,HL,a4⟩:=hrel;have hB:=QB a9 a4;have CF:=stay a4 F1;have CZ:=stay a4 Z1;have CT:=stay a4 T1;have g4:=i4.below a4;have g5:=Cx i5 (Kp.of_below (e:=none) a4) Ck;have i6:=a4.size;have g6:=hB.size;obtain⟨xa,xc,rfl⟩:=Bg b5;by_cases c2:q<f.length
  ·obtain⟨m,g,hg,k2,Et,hm,-⟩:=(Ba i0 _ hB).mth2 c2;obtain⟨y0,y1,y2,y3,y4,y5,y6,y7,y8,y9⟩:=Ub Et;have hd:(f.map Prod.fst).drop q=f[q].1::(f.map Prod.fst).drop (q+1):=by rw[Wr (by simpa using c2)];simp
   have c3:=Ba a7;have c4:=Ba a8;rw[hd,Fz]at c3;rw[hd,Na]at c4;have g7:=fun Z tc ya yn yc m j=>Ba i2 f[q] (Bvh c2) Z tc ya yn yc m j;generalize f[q].1=x at *;have kb:(q:Int)<(f.length:Int):=Bd;have a6:=hm;obtain⟨cl,nm,C,D,F,r1,r2,lo,st,G,cn,I,t,J,A,ma,ml,mc⟩:=m;simp only at y0 y1 y2 y3 y4 y5 y6 y7 y8 y9;have c5:=hB.alloc g6 (O18 cl nm C D F r1 r2 lo st G cn I t J A ma ml mc);have b3:Bl wr (wr.alloc (O18 cl nm C D F r1 r2 lo st G cn I t J A ma ml mc)):=QN _;have hf:=g7 Z tc ya yn yc ⟨cl,nm,C,D,F,r1,r2,lo,st,G,cn,I,t,J,A,ma,ml,mc⟩ _ c5 (g4.below b3) (Cx g5 (Kp.of_below (e:=none) b3) Ck) (hm.below b3);simp only[PM.val]at hf;generalize k4:B x=fm at *;have HF:=Bc hf;have c6:=Bk CF (O18 cl nm C D F r1 r2 lo st G cn I t J A ma ml mc);have g8:=Bk CZ (O18 cl nm C D F r1 r2 lo st G cn I t J A ma ml mc);have c7:=Bk CT (O18 cl nm C D F r1 r2 lo st G cn I t J A ma ml mc);have g9:=Bf wr (O18 cl nm C D F r1 r2 lo st G cn I t J A ma ml mc);obtain⟨a0,a1⟩:=cl2 c6;obtain⟨t0,t1⟩:=cl2 c7;have lF:=Pk c6;have lT:=Pk c7;simp at a0 a1 t0 t1;have b6:=Bc c3;have b7:=Bc c4;clear hf g7 hd Et a7 a8 c3 c4;cases fm with
   | none =>
    have e1:R1=none:=by rw[<- Ba b6];rfl
    have e2:R2=(q:Int):=by rw[<- Ba b7];rfl
    have b4:=Bc e1;have c8:=Bc e2;clear e1 e2 b6 b7;subst hg;go_wp2_with fail;refine(Ba HF).mono ?_;rintro e w2 ⟨K,L,vc,rfl,-,b0⟩;have a9:=QB c5 b0;have c9:=stay b0 g8;obtain⟨z0,z1⟩:=cl2 c9;obtain⟨q0,q1⟩:=fr2 c9;have i7:=Pk c9;simp at z0 z1;go_wp2;refine tb (.tuple #[.agg #[.s none 0 0,.s none 0 0],.i (q:Int),.bool false]) (by simp[results,results46,go_sem,z0,z1]) ?_;refine⟨none,0,0,none,0,0,by rw[Ba b4,Ba c8];rfl,fun r hr=>(by rw[Ba b4]at hr;cases hr),?_⟩;exact(a9.setCell Fr _).setCell Fr _
   | some mp =>
    have h0:Hid ((Fz B ((f.map Prod.fst).drop (q+1))).map ((l.map Prod.fst++[x.withMaps mp]) ++ ·)=R1):=by
     unfold Hid;rw[<- Ba b6];cases Fz B ((f.map Prod.fst).drop (q+1)) with
     | none=>rfl
     | some r=>simp
    have i8:Hid (Na B (q+1) ((f.map Prod.fst).drop (q+1))=R2):=by unfold Hid;rw[<- Ba b7,Sp Fr]
    clear b6 b7;subst hg;go_wp2_with fail;refine(Ba HF).mono ?_;rintro e w2 ⟨K,L,vc,rfl,h1,b0⟩;obtain⟨ms,i9,b8⟩:=h1 mp rfl;have d0:Bl wr w2:=QB b3 b0;have a9:=hB.trans (d0.mono g6);have k5:=a9.size;have b1:=stay b0 g9;have m9:=Bb b1 9;have q9:=Bj b1 9;have lM:=Pk b1;simp at m9;have b9:Bl wr (w2.setCell (.a wr.heap.size 9) (.s K L vc)):=d0.setCell Fr _;have k3:=Kp.set (b:=0) (i:=9) b1 (.s K L vc);have d6:(w2.setCell (.a wr.heap.size 9) (.s K L vc)).heap[wr.heap.size]?=some (O18 cl nm C D F r1 r2 lo st G cn I t J A K L vc):=by rw[Bq b1];rfl
    have h2:Sy (w2.setCell (.a wr.heap.size 9) (.s K L vc)) V (x.withMaps mp) ⟨.s C D F,.s G cn I,.s t J A,.s K L vc⟩:=by
     have h3:=a6.below b9;exact⟨h3.ps,h3.code,h3.hs,ms,i9,D8 (Cx b8.1 (k3.up _) Ck) Fm,fun p Y=>⟨(b8.2 p Y).1.kp0 k3 Ck,(b8.2 p Y).2.kp0 k3 Ck⟩⟩
    have Et:Ly (x.withMaps mp) ⟨.s C D F,.s G cn I,.s t J A,.s K L vc⟩=[.i cl,.i nm,.s C D F,.i r1,.i r2,.i lo,.i st,.s G cn I,.s t J A,.s K L vc]:=by
     have e1:=a6.cl;have e2:=a6.nm;have e3:=a6.r1;have e4:=a6.r2;have e5:=a6.lo;have e6:=a6.st;simp only at e1 e2 e3 e4 e5 e6;simp[Ly,Rd.Mth.withMaps,e1,e2,e3,e4,e5,e6]
    have j1:=Bc Et;have c0:=Cx b5 (Kp.of_below (e:=none) b9) Ck;have h4:Hid (∀p∈l++[(x.withMaps mp,(⟨.s C D F,.s G cn I,.s t J A,.s K L vc⟩:Eh))],Sy (w2.setCell (.a wr.heap.size 9) (.s K L vc)) V p.1 p.2):=fun p Y=>by
     rcases List.mem_append.1 Y with Y|Y
     ·exact(Ba HL p Y).below b9
     rw[List.mem_singleton.1 Y];exact h2
    have d7:=a4.trans (b9.mono i6);clear Et b5 HL g4 g5 hB a4 b3 c5 c6 g8 c7 g9 CF CZ CT a0 a1 t0 t1 lF lT a6 hm h2 b8 h1 k3 a9 d0 b0 HF
    go_upto_region 10 with fail
    clear m9 q9 lM b1;generalize w2.setCell (.a wr.heap.size 9) (.s K L vc)=w3 at *;obtain⟨m0,m1,m2,m3,m4,m5,m6,m7,m8,m9⟩:=N7 d6;have lM:=Pk d6;have j2:=d7.size;simp at m0 m1 m2 m3 m4 m5 m6 m7 m8 m9;go_wp2_with (at_builtin;refine Bvw _ rfl _ _ 82 rfl W1.heap.size 133 j0 _ 10 144 underlying82 hj h7 h8 h9 rfl Ck _ _ _ rfl (c0.alloc _) ⟨w3.heap.size,0,none⟩ 1 1 [.i cl,.i nm,.s C D F,.i r1,.i r2,.i lo,.i st,.s G cn I,.s t J A,.s K L vc] rfl rfl ?d1 ?d2 ?d3 ?d4 ?d5 ?_)
    case d1=>exact Dv _ _ _ _ Fr
    case d2=>intro u hu;simp at hu;rcases hu with rfl|rfl|rfl|rfl|rfl|rfl|rfl|rfl|rfl|rfl<;>rfl
    case d3=>unfold maxLen;omega
    case d4=>omega
    case d5=>simp;omega
    intro v' w4 h5 d8 _;have j3:=(d7.alloc j2 _).grown d8 Fm (fun z hz=>(c0.lt z hz).1);have hK:=(Kp.alloc (e:=some 133) (b:=0) _ _).trans (Kp.of_grown d8 (c0.alloc _));have j4:Hid (∀p∈l++[(x.withMaps mp,(⟨.s C D F,.s G cn I,.s t J A,.s K L vc⟩:Eh))],Sy w4 V p.1 p.2):=fun p Y=>(Ba h4 p Y).kp hK Ck Ck Ck Ck;have j5:w4.ownsRow W1.heap.size 133 10 v' (q+1) (Kw (l++[(x.withMaps mp,(⟨.s C D F,.s G cn I,.s t J A,.s K L vc⟩:Eh))])):=by rw[Ac,Ba j1];exact h5
    have j6:Hid ((Fz B ((f.map Prod.fst).drop (q+1))).map ((l++[(x.withMaps mp,(⟨.s C D F,.s G cn I,.s t J A,.s K L vc⟩:Eh))]).map Prod.fst ++ ·)=R1):=by unfold Hid;rw[<- Ba h0];simp
    clear d8 hK c0 h5 h4 d7 d6 m0 m1 m2 m3 m4 m5 m6 m7 m8 m9 lM h0;go_wp2;go_roundw
    case rel=>exact⟨q+1,_,Bd,Lt,by simp[g3],j6,i8,j5,j4,j3⟩
    case measure=>simp[intOf];omega
  have kb:¬(q:Int)<(f.length:Int):=Bd;have e1:R1=some (l.map Prod.fst):=by rw[<- Ba a7,Bvi Fm];simp[Fz]
  have e2:R2=0:=by rw[<- Ba a8,Bvi Fm];rfl
  have b4:=Bc e1;have c8:=Bc e2;have a0:=Bb CF 0;obtain⟨z0,z1⟩:=cl2 CZ;obtain⟨q0,q1⟩:=fr2 CZ;have lF:=Pk CF;have i7:=Pk CZ;simp at a0 z0 z1;have d9:Uk wr V (.s xa q xc) l:=⟨by rw[g3];exact D8 b5 (by have:=a9.size;omega),Ba HL⟩;have k1:=(Kp.set (b:=0) (i:=0) CZ (.s N O Q)).trans (Kp.set (i:=1) (Bq (i:=0) CZ (.s N O Q)) (.s xa q xc));have j7:Uk ((wr.setCell (.a (w.heap.size+1) 0) (.s N O Q)).setCell (.a (w.heap.size+1) 1) (.s xa q xc)) V (.s xa q xc) l:=⟨Cx d9.1 (k1.up V) Ck,fun p Y=>(d9.2 p Y).kp k1 Ck Ck Ck Ck⟩;clear e1 e2 a7 a8 d9 k1;go_wp2;refine tb (.tuple #[.agg #[.s N O Q,.s xa q xc],.i 0,.bool true]) (by simp[results,results46,go_sem,z0,z1]) ?_;exact⟨N,O,Q,xa,q,xc,by rw[Ba b4,Ba c8];rfl,fun r hr=>⟨rfl,rfl,rfl,l,by rw[Ba b4]at hr;exact Option.some.inj hr,j7⟩,(hB.setCell Fr _).setCell Fr _⟩
def Xc (cs:List Rd.Cls)(ms:List Rd.Mth)(m:Rd.Mth)(t:Bt):Prop:=(Ep cs ms m).Ok t/\t.sp.length=m.code.length
def Brt{t:List Rd.Cls}{m:List Rd.Mth}(k:Jj t m){F:Rd.Mth}(e:F∈m)(q:0<F.code.length){i:Cd.Ins}(f:i∈Cd.readL F.code){Y:Bt}(b:Xc t m F Y)(B:i.place<(Y.sp.length:Int))(g:(Y.at i.place.toNat).ri=true):J1 (Tr.tree t) F (Y.at i.place.toNat).fr/\Xc t m F (Gx (Ep t m F) (Dt t m F) i (Y.at i.place.toNat).fr (Y.calm i.place.toNat)):=by
 have s:=Wd k e q;obtain⟨h,_⟩:=Y0 k e;obtain⟨p,v⟩:=h i f;have c:i.place.toNat<Y.sp.length:=by have:=v.pl;omega
 have j:=(b.1 _ (Jf c)).1 ((b.1 _ (Jf c)).2 g);obtain⟨z,A,_⟩:=Vh (K:=0) b.1 c g;have l:=Bdb s h i f _ _ j z;exact⟨j,l.ok,l.len.trans (A.trans b.2)⟩
def Bio{t:List Rd.Cls}{m:List Rd.Mth}(k:Jj t m){F:Rd.Mth}(D:F∈m)(hc:0<F.code.length){lcs:List (Rd.Cls×Value)}{lms:List (Rd.Mth×Eh)}{bm Q:Nat}{v:TW} (a2:∀f,Bl v f->Hs f Q (.s b.la b.L.length b.lc) b.L->Uj t m lcs lms b F bm f){S K C:Nat}(hS:v.heap.size<=S)(hG:v.heap.size<=K){Y:Bt}(ht:Xc t m F Y)(V:Bl v w)(Z:Hs w Q (.s b.la b.L.length b.lc) b.L)(h:Ed w S K b C Y):Calls prog 112 #[.q S 0] w fun e f=>e=.r (.bool ((Ct (Gx (Ep t m F) (Dt t m F)) (Cd.readL F.code) false Y).2 && !(Ct (Gx (Ep t m F) (Dt t m F)) (Cd.readL F.code) false Y).1.hop))/\Ed f S K b C (Ct (Gx (Ep t m F) (Dt t m F)) (Cd.readL F.code) false Y).1/\Xc t m F (Ct (Gx (Ep t m F) (Dt t m F)) (Cd.readL F.code) false Y).1/\Lw S K w f:=by
 have g:=k.mt F D;have z:=a2 w V Z;have eL:=z.L;have eT:=z.T;have a5:b.st=F.stack:=z.is.st;have a6:b.hl=F.handlers.length:=z.is.hl;have a7:(Cd.readL F.code).length<=100000:=by rw[<- eL];exact z.ru.ll
 have a9:=g.bd.hs;have b0:=g.bd.code;refine Bmu b S K C Q (Cd.readL F.code) _ (Xc t m F) Y w eL a7 h ht (fun i A=>?_) (fun f I=>?_) (fun i A l a0 hl hr=>(Brt k D hc A a0 hl hr).2) (fun i A l a0 hl hr c f I J hv=>?_)
 ·obtain⟨p,N⟩:=(Y0 k D).1 i A;have:=N.pl;omega
 ·have:=Z8 Z h I Ck Ck;rw[<- eL];exact this
 obtain⟨hx,_⟩:=Brt k D hc A a0 hl hr;rw[Bb1 g]at A;obtain⟨p,N,rfl⟩:=List.mem_map.1 A;have b1:p<F.code.length:=Ur N;have a8:=Z8 Z h I Ck Ck;have a3:=V.trans (I.below hS hG V.size);have a1:∀j,Lw S K f j->Uj t m lcs lms b F bm j:=fun j B=>a2 j (a3.trans (B.below hS hG a3.size)) (Z8 a8 J B Ck Ck);have e1:((Cd.insAt F.code p).place).toNat=p:=by show ((p:Int)).toNat=p;omega
 rw[e1]at J hv hx ⊢;have hT:∀j,Lw S K f j->Dl j b.tg b.T:=fun j B=>(a1 j B).ru.tr;have hH:=fun j (O:Bl f j)=>Bnq b S K C F.handlers bm (p:Int) (l.calm p) c (l.at p).fr j z.ru.tl (fun w4 k4=>hT w4 ((Dd O).trans k4)) a6 Bd (fun w4 k4=>(a1 w4 ((Dd O).trans k4)).is.hs) (J.below O) (hv.below O);have:=Bns b S K C p (Cd.insAt F.code p).op (Cd.insAt F.code p).n (l.calm p) _ (Dt t m F (Cd.insAt F.code p) (l.at p).fr) c f z.ru.tl hT Bd J hH (fun j B=>Zz (a1 j B) p c (l.at p).fr N (hv.lw B) hx);rw[eT,a5]at this;have el:=Bk0 (Tr.tree t) F.stack F.handlers (Dt t m F) (Cd.insAt F.code p) (l.at p).fr (l.calm p);show Calls prog 169 _ f fun e a4=>e=.r (.tuple #[])/\Ed a4 S K b C (Mj (Tr.tree t) F.stack F.handlers (Dt t m F) (Cd.insAt F.code p) (l.at p).fr (l.calm p))/\Lw S K f a4;rw[el];exact this
def Bk1{t:List Rd.Cls}{m:List Rd.Mth}(k:Jj t m){l Z:TA}{c1 bm:Nat}{lcs:List (Rd.Cls×Value)}{lms:List (Rd.Mth×Eh)}(ec:lcs.map Prod.fst=t)(b1:Ex w bm (.s l u c1) lcs)(em:lms.map Prod.fst=m)(b2:Eb w bm (.s Z lms.length j) lms) {x:Rd.Mth}(I:x∈m)(hc:0<x.code.length){tg tc:Nat}{ya:TA}{yn yc:Nat}{f:PM}{b:TW}(hb:Bl w b)(a0:Dl b tg (Tr.tree t)){b0:Nat}(a3:b.ownsRow b0 105 1 (.s ya yn yc) (7+lcs.length) (Tr.fvals lcs))(O:f.is x b bm):Calls prog 70 #[.agg #[.s l u c1,.s Z lms.length j],.agg #[.s (.p tg) (Tr.tree t).length tc,.s ya yn yc],f.val] b fun e J=>∃a n c,e=.r (.tuple #[.s a n c,.bool (Gw t m x).isSome])/\(∀mp,Gw t m x=some mp->∃v,v.map Prod.fst=mp/\Sz J b.heap.size (.s a n c) v)/\Bl b J:=by
 have g:=k.mt x I;have L:=Wd k I hc;obtain⟨hL,hA⟩:=Y0 k I;have c0:=Ix t;have c3:=k.l6;have c4:=k.m6;have c5:lcs.length=t.length:=by rw[<- ec];simp
 have c6:lms.length=m.length:=by rw[<- em];simp
 have c7:=g.bd.code;have c8:=g.rd.lo;have a4:=O.st;have a5:∀i∈Cd.readL x.code,0<=i.place:=fun i hi=>by obtain⟨p,hp⟩:=hL i hi;have:=hp.pl;omega
 have i0:=Bjl (Ep t m x);have il:(Nm (Ep t m x)).sp.length=(Ep t m x).n:=by simp[Nm]
 have ca:=Uh L i0 il (x:=(Ep t m x).x0) ⟨L.x0.lo,L.x0.tl,L.x0.ts⟩ 0;have h0:Xc t m x (D9 (Tr.tree t) f.st (Fk x) 0 ⟨List.replicate x.code.length Jz,false⟩):=by
  rw[a4];exact⟨ca.up.ok,ca.up.len.trans il⟩
 have a6:=Bdb L hL;have b3:∀z,Xc t m x z->Io (Tr.tree t) x.locals.toNat x.stack (Yj x.code) (Rv (Tr.tree t) x.locals.toNat x.stack) z (Ct (Gx (Ep t m x) (Dt t m x)) (Cd.readL x.code) false z).1/\((Ct (Gx (Ep t m x) (Dt t m x)) (Cd.readL x.code) false z).2=true->false=false->Mx (Tr.tree t) (Rv (Tr.tree t) x.locals.toNat x.stack) (Ct (Gx (Ep t m x) (Dt t m x)) (Cd.readL x.code) false z).1<Mx (Tr.tree t) (Rv (Tr.tree t) x.locals.toNat x.stack) z):=fun z C=>Xu (Cd.readL x.code) a5 a6 false C.1;have b4:=fun D (h:Bl b D)=>(show Calls prog 110 #[f.val] D fun e J=>∃A:FrV,e=.returned A.val/\A.is (Fk x) J/\Bl D J from by
  have F:=O.below h;have:=Bb5 f x.params x.locals.toNat D (by rw[F.lo];omega) Bd (TyR.of_tys F.ps) (by have:=g.bd.ps;omega);rw[F.cl]at this;exact this)
 have b5:=Bnt l Z u c1 lms.length j tg tc ya yn yc (Tr.tree t) f x bm (Fk x) (Gx (Ep t m x) (Dt t m x)) (Xc t m x) (Mx (Tr.tree t) (Rv (Tr.tree t) x.locals.toNat x.stack)) (Ye (Tr.tree t) (Rv (Tr.tree t) x.locals.toNat x.stack) (Gx (Ep t m x) (Dt t m x)) (Cd.readL x.code)) b Bd a0 O Bd g.bd.code0 b4 h0
  (fun z C=>by
   have:=Boj (K:=Rv (Tr.tree t) x.locals.toNat x.stack) a5 a6 C.1;refine this.trans ?_;have b6:((Ct (Gx (Ep t m x) (Dt t m x)) (Cd.readL x.code) false z).2=true/\(Ct (Gx (Ep t m x) (Dt t m x)) (Cd.readL x.code) false z).1.hop=false)<->((Ct (Gx (Ep t m x) (Dt t m x)) (Cd.readL x.code) false z).2 && !(Ct (Gx (Ep t m x) (Dt t m x)) (Cd.readL x.code) false z).1.hop)=true:=Fr;simp only[b6];rfl)
  (fun z C h=>(b3 z C).2 (by simp at h;exact h.1) rfl)
  (fun la lc bb S G z D b7 hS hG hI C b8=>by
   refine Bio (lcs:=lcs) (lms:=lms) (bm:=bm) k I hc (fun w3 Q b9=>?_) hS hG C b7 hI b8;have a7:=QB hb Q;obtain⟨c9,d0,a8⟩:=Bg a3;simp only[Value.slice.injEq]at a8;refine⟨k,ec,em,I,rfl,rfl,⟨rfl,Bd,?_,(by rw[Wb];exact a8.2.1),(by rw[Wb];omega),?_,⟨?_,?_⟩,(by show (Tr.tree t).length<=1000;omega),a0.below Q,?_,D8 b9 (Bv5 _)⟩,?_⟩
   ·exact(b2.kp (Kp.of_below (e:=none) a7) Ck Ck Ck Ck Ck).mono (Bv5 _)
   ·intro q B;unfold Kg at B;rcases List.mem_append.1 B with B|B
    ·rw[(List.mem_replicate.1 B).2];simp
    obtain⟨c,V,rfl⟩:=List.mem_map.1 B;exact k.fn c.1 (by rw[<- ec];exact List.mem_map.2 ⟨c,V,rfl⟩)
   ·rw[Bhf,Wb];exact D8 (Cx a3 (Kp.of_below (e:=none) Q) Ck) (Bv5 _)
   ·intro q B;unfold Kg at B;rcases List.mem_append.1 B with B|B
    ·rw[(List.mem_replicate.1 B).2];exact TyR.nil _
    obtain⟨c,V,rfl⟩:=List.mem_map.1 B;exact TyR.of_tys ((b1.kp (Kp.of_below (e:=none) a7) Ck Ck).2 c V)
   ·show (Cd.readL x.code).length<=100000;rw[Vy g.unread];have:=Aj x.code;omega
   have Y:=O.below Q;have a9:=Y.cn;obtain⟨cl,nm,pa,pl,pc,r1,r2,lo,st,ca,cn,cc,ha,d1,V,ma,ml,mc⟩:=f;simp only at a9;subst a9;exact Y)
 refine b5.mono ?_;rintro e D ⟨a,n,c,rfl,F,Y⟩;rw[a4]at F ⊢;change (Ja t m x).hop=false->∃v,v.map Prod.fst=Fp 0 (Ja t m x).sp/\Sz D b.heap.size (.s a n c) v at F;refine⟨a,n,c,?_,fun mp N=>?_,Y⟩
 ·show Ending.returned (.tuple #[.s a n c,.bool (!(Ja t m x).hop)])=_;unfold Gw;cases (Ja t m x).hop<;>rfl
 unfold Gw at N;by_cases hh:(Ja t m x).hop=true;·rw[Sp hh]at N;cases N
 rw[Pf hh]at N;cases N;exact F (by simpa using hh)
def Bk3{t:List Rd.Cls}{m:List Rd.Mth}(k:Jj t m)(I:∀b∈m,0<b.code.length){a1 a2:TA}{n1 c1 n2 c2 bm:Nat}{lcs:List (Rd.Cls×Value)}{lms:List (Rd.Mth×Eh)}(J:bm<=w.heap.size)(f:lcs.map Prod.fst=t)(j:Ex w bm (.s a1 n1 c1) lcs)(c:lms.map Prod.fst=m)(g:Eb w bm (.s a2 n2 c2) lms):Calls prog 46 #[.agg #[.s a1 n1 c1,.s a2 n2 c2]] w fun e h=>∃q v z A B C,e=.r (.tuple #[.agg #[.s q v z,.s A B C],.i (Na (Gw t m) 0 m),.bool (Fz (Gw t m) m).isSome])/\(∀r,Fz (Gw t m) m=some r->q=a1/\v=n1/\z=c1/\∃l,l.map Prod.fst=r/\Uk h bm (.s A B C) l)/\Bl w h:=by
 obtain⟨Q,V,D⟩:=Bg g.1;simp only[Value.slice.injEq]at D;obtain⟨rfl,rfl,rfl⟩:=D;have Y:lcs.length=t.length:=by rw[<- f];simp
 have Z:lms.length=m.length:=by rw[<- c];simp
 have a0:=k.l6;have a3:=k.m6;have:=Brp a1 a2 n1 c1 c2 bm lcs lms (Gw t m) w J Bd j Bd g (fun p K tg tc ya yn yc b h L F N O=>by
  have G:p.1∈m:=by rw[<- c];exact List.mem_map.2 ⟨p,K,rfl⟩
  rw[f]at F ⊢;exact Bk1 k f j c g G (I _ G) L F N O)
 rw[c]at this;exact this
def Yv:∀(l:List Od) (k:Nat) (q:Rd.Mp),q∈Fp k l->∃i p,l[i]?=some p/\p.wa=true/\q=⟨((k+i:Nat):Int),p.fr.locals,p.fr.stack⟩
 | [],_,_,h=>by simp[Fp]at h
 | p::r,k,q,h=>by
  unfold Fp at h;by_cases b:p.wa=true
  ·rw[Sp b]at h;rcases List.mem_cons.1 h with rfl|h
   ·exact⟨0,p,rfl,b,rfl⟩
   obtain⟨i,c,e,f,g⟩:=Yv r (k+1) q h;exact⟨i+1,c,e,f,by rw[g,show k+1+i=k+(i+1) by omega]⟩
  rw[Pf b]at h;obtain⟨i,c,e,f,g⟩:=Yv r (k+1) q h;exact⟨i+1,c,e,f,by rw[g,show k+1+i=k+(i+1) by omega]⟩
def Bcf:∀(l:List Od) (k:Nat),(Fp k l).length<=l.length
 | [],_=>Wf _
 | p::r,k=>by
  have:=Bcf r (k+1);unfold Fp
  split<;>simp<;>omega
def Be8{E:Df}(g:E.Good){b:Cd.Ins->Be->Option Be}(l:∀i∈L,∃p,Po E b i p)(m:∀p∈E.ps,∃i∈L,i.place=(p:Int))(s:(Fq E b L).hop=false)(t:((Fq E b L).at q).wa=true):((Fq E b L).at q).st=true/\E.I ((Fq E b L).at q).fr:=by
 obtain⟨v,_,A,_⟩:=Bck g l m;obtain⟨B,_,C⟩:=A s;obtain⟨p,D,hF,G⟩:=(C q).1 t;have J:∃z,(Fq E b L).F q=some z:=by
  cases e:(Fq E b L).F p with
  | none=>exact absurd e hF
  | some x =>
   have f:=B.sat p D x e;rcases G with ⟨h,K,N,rfl⟩|⟨O,rfl⟩
   ·obtain⟨_,_,_,⟨z,c,_⟩,_⟩:=f.go _ _ _ (.hnd h K N);exact⟨z,c⟩
   obtain⟨y,Q⟩:=f.rl;obtain⟨_,_,_,⟨z,c,_⟩,_⟩:=f.go _ _ _ (.jmp y Q O);exact⟨z,c⟩
 obtain⟨z,c⟩:=J;obtain⟨j,_⟩:=Ol.1 c;exact⟨j,Ov v j⟩
def Bik{t:List Rd.Cls}{m:List Rd.Mth}(k:Jj t m){F:Rd.Mth}(c:F∈m)(v:0<F.code.length){mp:List Rd.Mp}(h:Gw t m F=some mp):mp.length<=F.code.length/\∀q∈mp,0<=q.place/\q.place<(F.code.length:Int)/\J1 (Tr.tree t) F ⟨q.locals,q.stack⟩:=by
 have e:=Wd k c v;obtain⟨f,g⟩:=Y0 k c;unfold Gw at h;by_cases b:(Ja t m F).hop=true;·rw[Sp b]at h;cases h
 rw[Pf b]at h;cases h;have C:(Ja t m F).sp.length=F.code.length:=(Bck e f g).2.1;refine⟨by have:=Bcf (Ja t m F).sp 0;omega,fun q z=>?_⟩;obtain⟨i,p,j,A,rfl⟩:=Yv _ _ _ z;have D:i<(Ja t m F).sp.length:=(List.getElem?_eq_some_iff.1 j).1;have l:(Ja t m F).at i=p:=by unfold Bt.at;rw[Th,j];rfl
 have B:=Be8 e f g (show (Ja t m F).hop=false by simpa using b) (q:=i) (by show ((Ja t m F).at i).wa=true;rw[l];exact A);have s:J1 (Tr.tree t) F ((Ja t m F).at i).fr:=B.2;rw[l]at s;exact⟨Ls,Ls,s⟩
def Yz{c:Rd.Mth->Option (List Rd.Mp)}:∀(l r:List Rd.Mth),Fz c l=some r->r.length=l.length/\∀y∈r,∃m∈l,∃mp,c m=some mp/\y=m.withMaps mp
 | [],r,h=>by cases h;exact⟨rfl,fun y b=>by simp at b⟩
 | m::l,r,h=>by
  unfold Fz at h;cases e:c m with
  | none=>rw[e]at h;cases h
  | some mp =>
   rw[e]at h;simp only at h;cases f:Fz c l with
   | none=>rw[f]at h;cases h
   | some r' =>
    rw[f]at h;cases h;obtain⟨g,i⟩:=Yz l r' f;refine⟨by simp[g],fun y b=>?_⟩;rcases List.mem_cons.1 b with rfl|b
    ·exact⟨m,Fr,mp,e,rfl⟩
    obtain⟨j,p,q⟩:=i y b;exact⟨j,by simp[p],q⟩
def Yd (s:TB):List UInt8 × Int × Int :=
 if (Rf.formed s).1≠0 then ([],(Rf.formed s).1,(Rf.formed s).2.1)
 else match Fz (Gw (Rd.read s).1.classes (Rd.read s).1.methods) (Rd.read s).1.methods with
  | none=>([],10,Na (Gw (Rd.read s).1.classes (Rd.read s).1.methods) 0 (Rd.read s).1.methods)
  | some r=>(Ux ⟨(Rd.read s).1.classes,r⟩,0,0)
def Ba0{D:TB}(h:(Rf.formed D).1=0):(Rd.read D).2=0:=by
 rw[<- M3]at h;unfold Ft at h;by_cases b:(Rd.read D).2≠0;·rw[Sp b]at h;exact absurd h b
 simpa using b
def Bmx(s:ByteArray)(h:(Rf.formed s.data.toList).1=0){r:List Rd.Mth}(i:Fz (Gw (Rd.read s.data.toList).1.classes (Rd.read s.data.toList).1.methods) (Rd.read s.data.toList).1.methods=some r):(Ux ⟨(Rd.read s.data.toList).1.classes,r⟩).length<=100000:=by
 obtain⟨k,_,_⟩:=Ke _ h;have j:=Zy _ (Ba0 h);obtain⟨v,l⟩:=Vx s.data.toList;obtain⟨z,p⟩:=Xt s.data.toList;generalize (Rd.read s.data.toList).1=f at *;obtain⟨A,J⟩:=f;simp only at k j v l z p i ⊢;obtain⟨K,B⟩:=Yz _ _ i;unfold Ux Bbq;simp only[Up,Bvo,Bwn];have L:=Bdg Nf 2002 A (fun x e=>by have:=p x e;simp only[Nf,Bvo,Kf];omega);have N:=Bdg Ks 5000 r (fun x e=>by
  obtain⟨m,c,mp,C,rfl⟩:=B x e;obtain⟨O,D⟩:=Bik k c (j m c) C;have b:=l m c;have Q:=b.ps;have g2:=b.code;have g3:=b.hs;have g:=k.mt m c;have g4:=g.rd.lo;have g5:=g.rd.st;have V:=Bdg Lk 34 mp (fun q F=>by
   obtain⟨_,_,t⟩:=D q F;have G:=t.lo;have I:=t.hi;simp only at G I;simp only[Lk,Bvo,Up,Kf];omega)
  rw[Bcz];simp only[Rd.Mth.withMaps,Pw,Uw,Bvo,As];omega)
 omega
def Bi1(s:ByteArray)(w:TW)(hs:s.size<=maxLen):Calls prog 14 #[.string s] w fun e w'=>e=.r (.tuple #[.string ⟨(Yd s.data.toList).1.toArray⟩,.i (Yd s.data.toList).2.1,.i (Yd s.data.toList).2.2])/\Bl w w':=by
 have J:=fun w=>Bdy s w hs;have b0:=M3 s.data.toList;have K:=fun h r hr=>Bmx s h (r:=r) hr;have L:=fun h=>Ke s.data.toList h;have N:=fun h=>Zy s.data.toList (Ba0 h);obtain⟨b5,-⟩:=Vx s.data.toList;obtain⟨b6,-⟩:=Xt s.data.toList;rw[b0]at J;unfold Yd;generalize Rf.formed s.data.toList=P at *;generalize Rd.read s.data.toList=q at *;obtain⟨O,f,m⟩:=P;obtain⟨⟨Q,V⟩,er⟩:=q;simp only at J K L N b5 b6 ⊢;have a4:=Bc J;clear J b0;by_cases h1:O=0
 ·subst h1;rw[Pf Fr];obtain⟨k,-,-⟩:=L rfl;have b1:=N rfl;have b2:=K rfl;have b3:=fun (a1 a2:TA) (n1 c1 n2 c2 bm:Nat) (lcs:List (Rd.Cls×Value)) (lms:List (Rd.Mth×Eh)) (w':TW) b7 ec b8 em b9=>Bk3 (a1:=a1) (a2:=a2) (n1:=n1) (c1:=c1) (n2:=n2) (c2:=c2) (bm:=bm) (lcs:=lcs) (lms:=lms) (w:=w') k b1 b7 ec b8 em b9;generalize hF:Fz (Gw Q V) V=FL at *;generalize Na (Gw Q V) 0 V=WH at *;have b4:=Bc b3;have c0:=Bc b2;clear L N K b2 b3 k b1;cases FL with
  | none =>
   simp only;go_in;go_wp2_with fail;refine(Ba a4 _).mono ?_;rintro e g ⟨a1,n1,c1,a2,n2,c2,rfl,t,b⟩;obtain⟨lcs,lms,v,z,a5,A⟩:=t trivial;clear t;have B:=b.size;have C:=(b.alloc B (O1 a1 n1 c1 a2 n2 c2)).alloc Fm (O8 0 f m);have c:Kp none w.heap.size g ((g.alloc (O1 a1 n1 c1 a2 n2 c2)).alloc (O8 0 f m)):=(Kp.alloc _ _).trans (Kp.alloc _ _);have j:=z.kp c Ck Ck;have D:=A.kp c Ck Ck Ck Ck Ck;have a6:=Bc (Ba b4 a1 a2 n1 c1 n2 c2 w.heap.size lcs lms _ Fm v j a5 D);clear z A c j D;go_wp2_with fail;refine(Ba a6).mono ?_;rintro e Y ⟨Z,gn,gc,ha,hn,hc,rfl,-,F⟩;have G:=QB C F;go_wp2;refine tb (.tuple #[.string ⟨#[]⟩,.i 10,.i WH]) (by simp[results,B0s,go_sem]) ?_;exact⟨rfl,G.alloc G.size _⟩
  | some r =>
   simp only;have c3:=Ba c0 r rfl;have e1:=(Yz _ _ hF).1;go_in;go_wp2_with fail;refine(Ba a4 _).mono ?_;rintro e g ⟨a1,n1,c1,a2,n2,c2,rfl,t,b⟩;obtain⟨lcs,lms,v,z,a5,A⟩:=t trivial;clear t;have B:=b.size;have C:=(b.alloc B (O1 a1 n1 c1 a2 n2 c2)).alloc Fm (O8 0 f m);have c:Kp none w.heap.size g ((g.alloc (O1 a1 n1 c1 a2 n2 c2)).alloc (O8 0 f m)):=(Kp.alloc _ _).trans (Kp.alloc _ _);have j:=z.kp c Ck Ck;have D:=A.kp c Ck Ck Ck Ck Ck;have a6:=Bc (Ba b4 a1 a2 n1 c1 n2 c2 w.heap.size lcs lms _ Fm v j a5 D);clear z A c D;go_wp2_with fail;refine(Ba a6).mono ?_;rintro e Y ⟨Z,gn,gc,ha,hn,hc,rfl,c4,F⟩;obtain⟨rfl,rfl,rfl,l,hl,a0⟩:=c4 r rfl;have G:=QB C F;have c5:=G.size;have a7:=j.kp (Kp.of_below (e:=none) F) Ck Ck;obtain⟨xa,xc,I⟩:=Bg a7.1;simp only[Value.slice.injEq]at I;obtain⟨rfl,rfl,rfl⟩:=I;obtain⟨xa,xc,I⟩:=Bg a0.1;simp only[Value.slice.injEq]at I;obtain⟨rfl,rfl,rfl⟩:=I;have c8:lcs.length<=6:=by have:=congrArg List.length v;simp at this;omega
   have c9:l.length<=6:=by have:=congrArg List.length hl;simp at this;omega
   have a3:Bl Y (Y.alloc (O1 Z lcs.length gc ha l.length hc)):=QN _;have a8:(⟨lcs.map Prod.fst,l.map Prod.fst⟩:Rd.Fil)=⟨Q,r⟩:=by rw[v,hl]
   have a9:=Blr Z ha gc hc w.heap.size lcs l (Y.alloc (O1 Z lcs.length gc ha l.length hc)) (by rw[a8];exact c3) Bd Bd (a7.kp (Kp.of_below (e:=none) a3) Ck Ck) ⟨Cx a0.1 (Kp.of_below (e:=none) a3) Ck,fun p hp=>(a0.2 p hp).below a3⟩;rw[a8]at a9;have c6:=Bc a9;clear a9 a8 j a7 a0 F a3;go_wp2_with fail;refine Qm (Ba c6) ?_;intro w3 c7;go_wp2;refine tb (.tuple #[.string ⟨(Ux ⟨Q,r⟩).toArray⟩,.i 0,.i 0]) (by simp[results,B0s,go_sem]) ?_;exact⟨rfl,(G.alloc c5 _).trans (c7.mono Fm)⟩
 rw[Sp h1];have d0:(O != 0)=true:=by simpa using h1
 clear L N K;simp only;go_in;go_wp2_with fail;refine(Ba a4 _).mono ?_;rintro e g ⟨a1,n1,c1,a2,n2,c2,rfl,-,b⟩;have B:=b.size;have C:=(b.alloc B (O1 a1 n1 c1 a2 n2 c2)).alloc Fm (O8 O f m);go_wp2;go_quiet (fail);go_wp2;refine tb (.tuple #[.string ⟨#[]⟩,.i O,.i f]) (by simp[results,B0s,go_sem]) ?_;exact⟨rfl,Cy C⟩
def By (n:Int):Prop:=0<=n/\n<=255
def TyB (t:Int × Int):Prop:=By t.1/\By t.2
structure Blz(c:Rd.Cls):Prop where
 ab:By c.above
 fl:c.fields.length<=4
 ty:∀t∈c.fields,TyB t
structure Bux(h:Rd.Hnd):Prop where
 fr:By h.frm
 tl:By h.til
 tg:By h.target
 cl:By h.cl
structure MpB(lo hi:Int)(m:Rd.Mp):Prop where
 pl:By m.place
 lo:(m.locals.length:Int)=lo
 hi:(m.stack.length:Int)<=hi
 tl:∀t∈m.locals,TyB t
 ts:∀t∈m.stack,TyB t
structure Blv(m:Rd.Mth):Prop where
 cl:By m.cl
 nm:By m.name
 pl:m.params.length<=4
 ps:∀t∈m.params,TyB t
 rs:TyB m.result
 lo:0<=m.locals/\m.locals<=8
 st:0<=m.stack/\m.stack<=8
 c1:1<=m.code.length
 c2:m.code.length<=120
 cb:∀x∈m.code,By x
 h4:m.handlers.length<=4
 hb:∀h∈m.handlers,Bux h
 m6:m.maps.length<=64
 mb:∀q∈m.maps,MpB m.locals m.stack q
structure Brq(f:Rd.Fil):Prop where
 c6:f.classes.length<=6
 cb:∀c∈f.classes,Blz c
 m1:1<=f.methods.length
 m6:f.methods.length<=6
 mb:∀m∈f.methods,Blv m
def A5{α:Type}{f:Rd.St->α×Rd.St}{P:α->Prop}(h:∀t,P (f t).1):∀(n:Nat) (t:Rd.St),∀x∈(Rd.rep f n t).1,P x
 | 0,_,x,b=>by simp[Rd.rep]at b
 | n+1,t,x,b=>by
  unfold Rd.rep at b;simp only at b;rcases List.mem_append.1 b with b|b
  ·exact A5 h n t x b
  rw[List.mem_singleton.1 b];exact h _
def Btt(s:TB)(t:Rd.St):TyB (Rd.ty s t).1:=⟨Rd.nx_bd s _,Rd.nx_bd s _⟩
def Bfp(s:TB)(n:Nat)(t:Rd.St):∀x∈(Rd.tys s n t).1,TyB x:=A5 (Btt s) n t
def Bva(s:TB)(t:Rd.St):Blz (Rd.cls s t).1:=by
 refine⟨Rd.nx_bd s _,?_,Bfp s _ _⟩;simp only[Rd.cls,Rd.tys,Rd.rep_len];have:=Rd.cn_bd s 0 4 (Rd.nx s t).2 Bd;omega
def Bu8(s:TB)(t:Rd.St):Bux (Rd.hnd s t).1:=⟨Rd.nx_bd s _,Rd.nx_bd s _,Rd.nx_bd s _,Rd.nx_bd s _⟩
def Bvf(s:TB)(L H:Int)(c:0<=L)(b:0<=H)(t:Rd.St):MpB L H (Rd.mp s L H t).1:=by
 refine⟨Rd.nx_bd s _,?_,?_,Bfp s _ _,Bfp s _ _⟩
 ·simp only[Rd.mp,Rd.tys,Rd.rep_len];omega
 simp only[Rd.mp,Rd.tys,Rd.rep_len];have:=Rd.cn_bd s 0 H (Rd.rep (Rd.ty s) L.toNat (Rd.nx s t).2).2 b;omega
def Bu4(s:TB)(t:Rd.St)(h:(Rd.mth s t).2.bad=false):Blv (Rd.mth s t).1:=by
 have c:=Bgq s t h;unfold Rd.mth at c ⊢;simp only at c ⊢;refine⟨Rd.nx_bd s _,Rd.nx_bd s _,?_,Bfp s _ _,Btt s _,Rd.cn_bd s _ _ _ Bd,Rd.cn_bd s _ _ _ Bd,c,?_,A5 (Rd.nx_bd s) _ _,?_,A5 (Bu8 s) _ _,?_,A5 (Bvf s _ _ (Rd.cn_bd s _ _ _ Bd).1 (Rd.cn_bd s _ _ _ Bd).1) _ _⟩
 ·simp only[Rd.tys,Rd.rep_len];have:=Rd.cn_bd s 0 4 (Rd.nx s (Rd.nx s t).2).2 Bd;omega
 ·simp only[Rd.codes,Rd.rep_len];have b:=Rd.cn_bd s 1 120;generalize (Rd.cn s 0 8 _).2=u;have:=b u Bd;omega
 ·simp only[Rd.hnds,Rd.rep_len];have b:=Rd.cn_bd s 0 4;generalize (Rd.codes s _).2=u;have:=b u Bd;omega
 simp only[Rd.mps,Rd.rep_len];have b:=Rd.cn_bd s 0 64;generalize (Rd.hnds s _).2=u;have:=b u Bd;omega
def Brs(s:TB):∀(n:Nat) (t:Rd.St),(Rd.rep (Rd.mth s) n t).2.bad=false->∀m∈(Rd.rep (Rd.mth s) n t).1,Blv m
 | 0,_,_,m,b=>by simp[Rd.rep]at b
 | n+1,t,h,m,b=>by
  unfold Rd.rep at h b;simp only at h b;rcases List.mem_append.1 b with b|b
  ·refine Brs s n t ?_ m b;cases c:(Rd.rep (Rd.mth s) n t).2.bad with
   | false=>rfl
   | true=>rw[Bda s _ c]at h;cases h
  rw[List.mem_singleton.1 b];exact Bu4 s _ h
def Buq(s:TB)(a b:Int)(t:Rd.St)(h:(Rd.cn s a b t).2.bad=false):a<=(Rd.cn s a b t).1:=by
 unfold Rd.cn at h ⊢
 split at h
 ·cases h
 split at h
 ·cases h
 next h1 h2=>rw[Pf h1,Pf h2];omega
def Btz(s:TB)(h:(Rd.read s).2=0):Brq (Rd.read s).1:=by
 unfold Rd.read at h ⊢;by_cases g:15000<s.length;·rw[Sp g]at h;simp at h
 rw[Pf g]at h ⊢;by_cases e:(Rd.fil s ⟨0,false⟩).2.bad=true\/(Rd.fil s ⟨0,false⟩).2.pos≠s.length;·rw[Sp e]at h;simp at h
 rw[Pf e];have b:(Rd.fil s ⟨0,false⟩).2.bad=false:=by
  cases b:(Rd.fil s ⟨0,false⟩).2.bad with
  | false=>rfl
  | true=>exact absurd (.inl b) e
 unfold Rd.fil at b ⊢;simp only at b ⊢;generalize Rd.ex s 77 (Rd.ex s 83 ⟨0,false⟩)=u at *;have q:=Rd.cn_bd s 0 6 u Bd;generalize Rd.cn s 0 6 u=n at *;have i:∀c∈(Rd.rep (Rd.cls s) n.1.toNat n.2).1,Blz c:=A5 (Bva s) _ _;have t:(Rd.rep (Rd.cls s) n.1.toNat n.2).1.length=n.1.toNat:=Rd.rep_len _ _ _;generalize Rd.rep (Rd.cls s) n.1.toNat n.2=f at *;have v:=Rd.cn_bd s 1 6 f.2 Bd;have j:=Buq s 1 6 f.2;generalize Rd.cn s 1 6 f.2=m at *;have l:m.2.bad=false:=by
  cases p:m.2.bad with
  | false=>rfl
  | true=>rw[Tj (Bda s) _ _ p]at b;cases b
 have z:=j l;refine⟨Ls,i,?_,?_,Brs s _ _ b⟩
 ·simp only[Rd.rep_len];omega
 simp only[Rd.rep_len];omega
def Zv(c:TI):∀(k b:Nat),c.length<=b+k->∀(d r:List Nat) (p:Nat),Cd.starts c k b=d++p::r->p+Cd.wd (c.getD p 0)<c.length->∃g,r=(p+Cd.wd (c.getD p 0))::g
 | 0,b,_,d,r,p,h,_=>by simp[Cd.starts]at h
 | k+1,b,hk,d,r,p,h,hl=>by
  unfold Cd.starts at h;by_cases f:b<c.length
  ·rw[Sp f]at h;have i:=Cd.wd_bd (c.getD b 0);cases d with
   | nil =>
    simp only[Bx4,List.cons.injEq]at h;obtain⟨rfl,rfl⟩:=h;obtain⟨j,rfl⟩:∃j,k=j+1:=⟨k-1,Bd⟩;unfold Cd.starts;rw[Sp hl];exact⟨_,rfl⟩
   | cons e d =>
    simp only[Bws,List.cons.injEq]at h;exact Zv c k _ Bd d r p h.2 hl
  rw[Pf f]at h;simp at h
def Bgg{d r:List Nat}(h:Cd.places z=d++u::r)(b:u+Cd.wd (z.getD u 0)<z.length):∃e,r=(u+Cd.wd (z.getD u 0))::e:=Zv z z.length 0 Bd d r u h b
def Uz{T:TI}{mp:Int->Option Be}{p:Int}{lo:TP}:∀{hs:List Rd.Hnd},Kk T mp p lo hs=0<->∀h∈hs,El h p=true->∃z,mp h.target=some z/\Dk T ⟨lo,[(3,h.cl)]⟩ z=true
 | []=>by simp[Kk]
 | h::r=>by
  have i:=Uz (T:=T) (mp:=mp) (p:=p) (lo:=lo) (hs:=r);unfold Kk;have j:El h p=true<->h.frm<=p/\p<h.til:=by unfold El;simp
  by_cases m:p<h.frm
  ·rw[Sp m,i]
   constructor
   ·intro g x b c;rcases List.mem_cons.1 b with rfl|b
    ·have:=(j.1 c).1;omega
    exact g x b c
   exact fun g x b=>g x (by simp[b])
  rw[Pf m];by_cases q:h.til<=p
  ·rw[Sp q,i]
   constructor
   ·intro g x b c;rcases List.mem_cons.1 b with rfl|b
    ·have:=(j.1 c).2;omega
    exact g x b c
   exact fun g x b=>g x (by simp[b])
  rw[Pf q];have c:El h p=true:=j.2 ⟨Bd,Bd⟩;cases l:mp h.target with
  | none =>
   simp only[Bzp,By3]
   constructor
   ·intro g;omega
   intro g;obtain⟨z,e,_⟩:=g h Fr c;rw[l]at e;cases e
  | some z =>
   rw[Pf (show ¬(some z).isSome=false by simp),show Ef (some z)=z from rfl];by_cases f:Dk T ⟨lo,[(3,h.cl)]⟩ z=true
   ·rw[Pf (show ¬Dk T ⟨lo,[(3,h.cl)]⟩ z=false by rw[f];simp),i]
    constructor
    ·intro g x b s;rcases List.mem_cons.1 b with rfl|b
     ·exact⟨z,l,f⟩
     exact g x b s
    exact fun g x b=>g x (by simp[b])
   rw[Sp (show Dk T ⟨lo,[(3,h.cl)]⟩ z=false by simpa using f)]
   constructor
   ·intro g;omega
   intro g;obtain⟨v,e,t⟩:=g h Fr c;rw[l]at e;cases e;exact absurd t f
def Bnp{mp:Int->Option Be}{H:Int}{R:Option Be}{op n p t:Int}:Nq z mp H R op n p t=0 <-> H=0/\∃y,R=some y/\(Dx op=true->∃c,mp n=some c/\Dk z y c=true)/\(Dz op=true->p<t/\∀c,mp p=some c->Dk z y c=true):=by
 unfold Nq;by_cases i:H=0
 ·rw[Pf (fun g=>g i)];cases R with
  | none=>simp
  | some y =>
   rw[Pf (show ¬(some y).isSome=false by simp),show Ef (some y)=y from rfl]
   constructor
   ·intro h;refine⟨i,y,rfl,?_,?_⟩
    ·intro j;by_cases m:(mp n).isSome=false;·rw[Sp ⟨j,m⟩]at h;omega
     rw[Pf (fun g=>m g.2)]at h;cases f:mp n with
     | none=>rw[f]at m;simp at m
     | some c =>
      rw[f,show Ef (some c)=c from rfl]at h;by_cases l:Dk z y c=false;·rw[Sp ⟨j,l⟩]at h;omega
      exact⟨c,rfl,by simpa using l⟩
    intro q
    split at h
    ·omega
    split at h
    ·omega
    rw[Pf (by rw[q];simp)]at h
    split at h
    ·omega
    next v =>
    refine⟨Bd,fun c f=>?_⟩;rw[f,show Ef (some c)=c from rfl]at h;by_cases l:Dk z y c=false;·rw[Sp ⟨rfl,l⟩]at h;omega
    simpa using l
   rintro ⟨-,B,e,j,q⟩;cases e;rw[Pf (by
    rintro ⟨a,b⟩;obtain⟨c,f,_⟩:=j a;rw[f]at b;simp at b),Pf (by
    rintro ⟨a,b⟩;obtain⟨c,f,A⟩:=j a;rw[f,show Ef (some c)=c from rfl,A]at b;cases b)]
   by_cases s:Dz op=true
   ·obtain⟨v,f⟩:=q s;rw[Pf (by rw[s];simp),Pf Bd,Pf (by
     rintro ⟨a,b⟩;obtain⟨c,e⟩:=Option.isSome_iff_exists.1 a;rw[e,show Ef (some c)=c from rfl,f c e]at b;cases b)]
   rw[Sp (by simpa using s)]
 rw[Sp i]
 constructor
 ·intro h;exact absurd h i
 intro h;exact absurd h.1 i
def V6{ah:Nat->Option Be}{lk:Nat->Be->Int}:∀{l:List Nat},(Lm ah lk l).1=0<->∀p∈l,∀x,ah p=some x->lk p x=0
 | []=>by simp[Lm]
 | p::r=>by
  have i:=V6 (ah:=ah) (lk:=lk) (l:=r);unfold Lm;cases c:ah p with
  | none =>
   simp only;rw[i]
   constructor
   ·intro g q b x e;rcases List.mem_cons.1 b with rfl|b
    ·rw[c]at e;cases e
    exact g q b x e
   exact fun g q b=>g q (by simp[b])
  | some x =>
   simp only;by_cases h:lk p x=0
   ·rw[Pf (fun g=>g h),i]
    constructor
    ·intro g q b y f;rcases List.mem_cons.1 b with rfl|b
     ·rw[c]at f;cases f;exact h
     exact g q b y f
    exact fun g q b=>g q (by simp[b])
   rw[Sp h]
   constructor
   ·intro g;exact absurd g h
   intro g;exact absurd (g p Fr x c) h
def Us{t:List Rd.Cls}{m:List Rd.Mth}{F:Rd.Mth}{d r:List Nat}(h:Cd.places F.code=d++u::r):Jh t m F u=(Fj F (u:Int)).or (d.foldl (fun o p=>Mk (fun p=>Fj F (p:Int)) (Fn t m F) (fun p=>Dz (F.code.getD p 0)) p o) (some (Fk F))):=by
 have b:=Bd4 F.code;unfold Jh;rw[h]at b ⊢;exact Ar _ _ _ u r d _ (fun p c=>(List.pairwise_append.1 b).2.2 p c u Fr)
def Bil{t:List Rd.Cls}{m:List Rd.Mth}{F:Rd.Mth}(b:0<F.code.length):Jh t m F 0=(Fj F 0).or (some (Fk F)):=by
 obtain⟨r,c⟩:∃r,Cd.places F.code=[]++0::r:=by
  unfold Cd.places;cases e:F.code.length with
  | zero=>omega
  | succ n =>
   unfold Cd.starts;rw[Sp b];exact⟨_,rfl⟩
 rw[Us c];rfl
def Bim{t:List Rd.Cls}{m:List Rd.Mth}{F:Rd.Mth}(b:u∈Cd.places F.code)(c:u+Cd.wd (F.code.getD u 0)<F.code.length):Jh t m F (u+Cd.wd (F.code.getD u 0))=(Fj F ((u+Cd.wd (F.code.getD u 0):Nat):Int)).or ((Jh t m F u).bind fun x=>(Fn t m F u x).bind fun z=>if Dz (F.code.getD u 0)=true then some z else none):=by
 obtain⟨d,r,h⟩:=Bzs b;obtain⟨e,rfl⟩:=Bgg h c;rw[Us (d:=d++[u]) (r:=e) (by rw[h];simp),Us h,List.foldl_append];rfl
def Wt (cs:List Rd.Cls)(ms:List Rd.Mth)(m:Rd.Mth)(q:Nat):Option Be:=if q∈Cd.places m.code then Jh cs ms m q else none
def Ut{t:List Rd.Cls}{m:List Rd.Mth}{F:Rd.Mth}(h:u∈Cd.places F.code):Wt t m F u=Jh t m F u:=Sp h
def Vd{t:List Rd.Cls}{m:List Rd.Mth}{F:Rd.Mth}(h:u∈Cd.places F.code){U:Be}(b:Fj F (u:Int)=some U):Jh t m F u=some U:=by
 obtain⟨d,r,h⟩:=Bzs h;rw[Us h,b];rfl
def Bqk{t:List Rd.Cls}{m:List Rd.Mth}(k:Jj t m){F:Rd.Mth}(s:F∈m)(C:q∈Cd.places F.code)(h:Jh t m F q=some x):J1 (Tr.tree t) F x:=by
 have g:=k.mt F s;obtain⟨d,r,A⟩:=Bzs C;rw[Us A]at h;have D:∀(d:List Nat) (o:Option Be),(∀p∈d,p∈Cd.places F.code)->(∀y,o=some y->J1 (Tr.tree t) F y)->∀y,d.foldl (fun o p=>Mk (fun p=>Fj F (p:Int)) (Fn t m F) (fun p=>Dz (F.code.getD p 0)) p o) o=some y->J1 (Tr.tree t) F y:=by
  intro d
  induction d with
  | nil=>intro o _ i y f;exact i y f
  | cons p d ih =>
   intro o B i y f;refine ih _ (fun p j=>B p (by simp[j])) (fun z b=>?_) y f;unfold Mk at b;simp only at b;cases e:(Fj F (p:Int)).or o with
   | none=>rw[e]at b;cases b
   | some u =>
    rw[e]at b;simp only[Bx1]at b;have G:J1 (Tr.tree t) F u:=by
     cases c:Fj F (p:Int) with
     | none=>rw[c]at e;exact i u e
     | some v=>rw[c]at e;cases e;exact Vc g c
    cases l:Fn t m F p u with
    | none=>rw[l]at b;cases b
    | some v =>
     rw[l]at b;simp only[Bx1]at b
     split at b
     ·cases b;exact Un k s (B p Fr) G l
     cases b
 cases c:Fj F (q:Int) with
 | none =>
  rw[c]at h;exact D d _ (fun p j=>by rw[A];simp[j]) (fun y f=>by cases f;exact Vj g) x h
 | some v=>rw[c]at h;cases h;exact Vc g c
def Bhn{t:List Rd.Cls}{m:List Rd.Mth}{F:Rd.Mth}:(Kj t m F).1=0<->(∀z,Fj F 0=some z->Dk (Tr.tree t) (Fk F) z=true)/\∀p∈Cd.places F.code,∀x,Jh t m F p=some x->Tz t m F p x=0:=by
 unfold Kj Vi;cases c:Fj F 0 with
 | none =>
  rw[Pf Fr,V6];simp
 | some z =>
  rw[show Ef (some z)=z from rfl];by_cases b:Dk (Tr.tree t) (Fk F) z=true
  ·rw[Pf (fun g=>by rw[b]at g;cases g.2),V6]
   constructor
   ·intro h;exact⟨fun f e=>by cases e;exact b,h⟩
   intro h;exact h.2
  rw[Sp ⟨rfl,by simpa using b⟩]
  constructor
  ·intro h;simp at h
  intro h;exact absurd (h.1 z rfl) b
def Biu{t:List Rd.Cls}{m:List Rd.Mth}(k:Jj t m){F:Rd.Mth}(N:F∈m)(O:0<F.code.length)(h:(Kj t m F).1=0):Tc (Ep t m F) (Wt t m F)/\∀p∈Cd.places F.code,Wt t m F p≠none->∀q,Bc2 (Ep t m F) p q->∃z,Fj F (q:Int)=some z/\Wt t m F q=some z:=by
 have g:=k.mt F N;have J:=Wd k N O;have hT:Tr.Ok (Tr.tree t):=k.ok;obtain⟨h0,h1⟩:=Bhn.1 h;have Q:∀{x y:Be},J1 (Tr.tree t) F x->J1 (Tr.tree t) F y->Dk (Tr.tree t) x y=true->Ew (Tr.tree t) x y:=fun f G V=>Bbm.1 (by rw[<- V8 hT (Nb f) (Nb G)];exact V);have lk:∀p∈Cd.places F.code,∀x,Jh t m F p=some x->_:=fun p l x f=>Bnp.1 (show Nq _ _ _ _ _ _ _ _=0 from h1 p l x f);have a5:∀p x,Wt t m F p=some x->J1 (Tr.tree t) F x:=by
  intro p x f;unfold Wt at f;by_cases l:p∈Cd.places F.code;·rw[Sp l]at f;exact Bqk k N l f
  rw[Pf l]at f;cases f
 have hI:∀{i:Rd.Hnd}{x:Be}{z:Be},i∈F.handlers->J1 (Tr.tree t) F x->J1 (Tr.tree t) F z->Dk (Tr.tree t) ⟨x.locals,[(3,i.cl)]⟩ z=true->Ew (Tr.tree t) (Gp x i) z:=by
  intro i x z v f A V;refine Bbm.1 ?_;rw[<- V8 hT ?_ (Nb A)]
  ·exact V
  refine⟨fun c Y=>(f.tl c Y).1,fun c Y=>?_⟩;have:c=(3,i.cl):=by simpa[Gp] using Y
  rw[this];exact(J.hnd i v).2.2.2
 refine⟨⟨a5,?_,?_⟩,?_⟩
 ·have A:=Xh O;rw[Ut A,Bil O];cases e:Fj F 0 with
  | none=>exact⟨_,rfl,.refl _ _⟩
  | some z=>exact⟨z,rfl,Q (Vj g) (Vc g e) (h0 z e)⟩
 ·intro p l x f;have K:p∈Cd.places F.code:=l;have hP:=a5 p x f;rw[Ut K]at f;obtain⟨Z,y,I,a3,a4⟩:=lk p K x f;have G:=Un k N K hP I;refine⟨⟨y,I⟩,?_⟩;intro q u b hg;cases hg using Fc.el with
  | hnd i v a0 =>
   obtain⟨z,j,B⟩:=Uz.1 Z i v a0;have C:=J.hnd i v;have s:((i.target.toNat:Nat):Int)=i.target:=Bd;have A:=Vc g j;have hl:=hI v hP A B;refine⟨C.1,C.2.1,?_,⟨z,?_,hl⟩,fun _=>trivial⟩
   ·have:=hl.st.len;have:=A.hi;show ((Gp x i).stack.length:Int)<=F.stack;omega
   rw[Ut C.2.2.1];exact Vd C.2.2.1 (by rw[s];exact j)
  | jmp u hu L =>
   have:u=y:=by have:=hu.symm.trans I;cases this;rfl
   subst this;obtain⟨z,j,B⟩:=a3 L;have D:=J.tgt p l L;have s:((((Ep t m F).ar p).toNat:Nat):Int)=(Ep t m F).ar p:=Bd;have A:=Vc g j;refine⟨D.1,D.2.1,G.hi,⟨z,?_,Q G A B⟩,fun _=>trivial⟩;rw[Ut D.2.2];exact Vd D.2.2 (by rw[s];exact j)
  | nxt u hu hgo =>
   have:u=y:=by have:=hu.symm.trans I;cases this;rfl
   subst this;obtain⟨j,B⟩:=a4 hgo;have hn:p+Cd.wd (F.code.getD p 0)<F.code.length:=Bd;have s:((Ep t m F).nx p).toNat=p+Cd.wd (F.code.getD p 0):=by
    show ((p:Int)+(Cd.wd (F.code.getD p 0):Int)).toNat=_;omega
   have a7:=Bap K hn;have a6:(Ep t m F).nx p=((p+Cd.wd (F.code.getD p 0):Nat):Int):=by
    show (p:Int)+(Cd.wd (F.code.getD p 0):Int)=_;omega
   have a8:Dz (F.code.getD p 0)=true:=hgo;refine⟨by rw[a6];omega,by rw[a6];exact j,G.hi,?_,fun h=>(by cases h)⟩;rw[s,Ut a7,Bim K hn,f];simp only[Bx1];have a9:Fn t m F p x=some u:=I;rw[a9,Bx1,Sp a8];cases e:Fj F ((p+Cd.wd (F.code.getD p 0):Nat):Int) with
   | none=>exact⟨u,rfl,.refl _ _⟩
   | some z=>exact⟨z,rfl,Q G (Vc g e) (B z e)⟩
 intro p l b0 q ha;cases f:Wt t m F p with
 | none=>exact absurd f b0
 | some x =>
  rw[Ut l]at f;obtain⟨Z,y,I,a3,a4⟩:=lk p l x f;rcases ha with ⟨i,v,a0,rfl⟩|⟨L,rfl⟩
  ·obtain⟨z,j,B⟩:=Uz.1 Z i v a0;have C:=J.hnd i v;have s:((i.target.toNat:Nat):Int)=i.target:=Bd;refine⟨z,by rw[s];exact j,?_⟩;rw[Ut C.2.2.1];exact Vd C.2.2.1 (by rw[s];exact j)
  obtain⟨z,j,B⟩:=a3 L;have D:=J.tgt p l L;have s:((((Ep t m F).ar p).toNat:Nat):Int)=(Ep t m F).ar p:=Bd;refine⟨z,by rw[s];exact j,?_⟩;rw[Ut D.2.2];exact Vd D.2.2 (by rw[s];exact j)
def Bbs:ByteArray:=⟨#[83,77,0,1,255,0,0,0,0,1,2,19,24,3,0,2,0,25,2,0,0,1,8,5,3,0,12,18,11,3,22,0,0]⟩
def P9:ByteArray:=⟨#[83,77,0,1,255,0,0,0,0,1,2,19,24,3,0,2,0,25,2,0,0,1,8,5,3,0,12,18,11,3,22,0,2,3,1,0,0,18,1,0,0]⟩
def Bes:(Gq P9.data.toList).1=0:=by decide +kernel
def Bqz:Yd Bbs.data.toList=(P9.data.toList,0,0):=by decide +kernel
def Bvb(b:ByteArray):(⟨b.data.toList.toArray⟩:ByteArray)=b:=by cases b;simp
end Go.Proofs.YtpcgnjolfahacaaGreat
