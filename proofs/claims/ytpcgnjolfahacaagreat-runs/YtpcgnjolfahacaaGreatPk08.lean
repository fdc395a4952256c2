/- the proof's parts -/
import Derived.Test.YtpcgnjolfahacaaGreatPk07
set_option maxRecDepth 100000
set_option maxHeartbeats 40000000
set_option linter.unusedVariables false
set_option linter.unusedSimpArgs false
set_option linter.defProp false
namespace Go.Proofs.YtpcgnjolfahacaaGreat
open Go.RowKit Go.Proofs.Tryz
def Vq{z:TI}(h:Cd.unread z<0):Cd.readL z=Cd.insts z:=by
 unfold Cd.readL;rw[Pk Ck]
def Yy{z:TI}{c:Int}(h:Cd.begB z c=true):c.toNat∈Cd.places z:=by
 unfold Cd.begB at h;rw[Bu9]at h;obtain⟨p,b,e⟩:=h;have:(p:Int)=c:=by simpa using e
 rw[<- this,Brx];exact b
def Bkf{c:TI}(b:Cd.unread c<0){q:Int}(h:W9 c q)(n:Int):J4 (Cd.readL c) n q=true<->Cd.atI c (q+1)=n:=by
 rw[Vq b];have s:=Mr h.1;have f:(Cd.findAt q (Cd.insts c)).isSome=true:=by rw[Cd.find_beg];exact h.1
 have i:=(Cd.find_at c q (Cd.places c) f).1;have g:=Nw b _ (Yy h.1);rw[h.2]at g;have j:Cd.wd (c.getD q.toNat 0)=2:=by rw[h.2];rfl
 have l:=Vv (c:=c) (p:=q.toNat) (by rw[h.2];exact g.2) j;unfold J4;rw[f];unfold Cd.insts;rw[i,l.1];have e:(Cd.insAt c q.toNat).op=15:=h.2;have m:((q.toNat:Nat):Int)=q:=Ck;rw[e,m];simp
def Pg{m:List Rd.Cls}{i:List Rd.Mth}(k:Kn m i){K:Rd.Mth}(f:K∈i){u:Nat}(c:u∈Cd.places K.code){x y:Bf}(j:Io (Tr.tree m) K x)(h:Ec m i K u x=some y):Io (Tr.tree m) K y:=by
 have g:=k.mt K f;have b:=Sz g c;unfold Ec at h;rw[Az]at h;refine Bl4 _ _ _ _ _ _ _ _ _ j (Bkb k b) (fun l=>?_) (fun q=>?_) (fun s=>b.cls Ck) h
 ·have:=b.loc (.inl l);have:=g.rd.lo;omega
 have e:Cd.begB K.code (u:Int)=true:=by
  unfold Cd.begB;rw[Bu9];exact⟨u,c,Hd⟩
 have:=Mr e;have:=g.bd.code;exact⟨.inr (.inr (.inr (.inr ⟨rfl,Hd,Fr⟩))),fun _=>⟨e,by simpa using q⟩⟩
def Up{m:List Rd.Cls}{i:List Rd.Mth}(k:Kn m i){K:Rd.Mth}(s:K∈i){u:Nat}(v:u∈Cd.places K.code){x:Bf}(j:Io (Tr.tree m) K x):It m i K (Cd.insAt K.code u) x=Ec m i K u x:=by
 have g:=k.mt K s;have Y:=Ie m;have Z:=Px m;obtain⟨a0,z⟩:=Nw g.unread u v;have A:=Sz g v;have B:(Cd.insAt K.code u).op=K.code.getD u 0:=rfl;have C:(Cd.insAt K.code u).place=(u:Int):=rfl
 -- the number as the program has it
 have D:Ec m i K u x=Es K.stack (D7 (Tr.tree m) (Cp m) i (fun c=>Rf.all (Tr.tree m) (Rf.given++m) c.toNat) (fun q=>Cd.atI K.code (q+1)) K.result (u:Int) (K.code.getD u 0) (Cd.insAt K.code u).n x):=by
  unfold Ec;have G:=Cd.wd_bd (K.code.getD u 0);by_cases b:Cd.wd (K.code.getD u 0)=2;·rw[(Vv z b).1]
  rw[Bou (show Cd.wd (K.code.getD u 0)=1 by omega)]
 have e:Vg (Tr.tree m) (Cd.fieldSum m:Int) i K (K.code.getD u 0) (Cd.insAt K.code u).n:=by
  have G:=Cd.wd_bd (K.code.getD u 0);by_cases b:Cd.wd (K.code.getD u 0)=2;·rw[(Vv z b).1];exact A
  have h':¬(K.code.getD u 0=0\/K.code.getD u 0=2\/K.code.getD u 0=3\/(11<=K.code.getD u 0/\K.code.getD u 0<=21)):=by
   intro I;unfold Cd.wd at b;rw[Th I]at b;exact b rfl
  exact⟨fun h=>Ck,fun h=>Ck,fun h=>Ck,fun h=>Ck,fun h=>Ck⟩
 have J:0<=(Cd.insAt K.code u).n:=by
  unfold Cd.insAt;simp only
  split
  ·exact Vx g.bd.code0 _
  omega
 obtain⟨n,l⟩:∃n:Nat,(Cd.insAt K.code u).n=(n:Int):=⟨(Cd.insAt K.code u).n.toNat,Ck⟩;rw[D];unfold It;rw[B,C,l];rw[l]at e;clear D A B C l J;generalize a1:K.code.getD u 0=op at *;have F:7<=(Rf.given++m).length:=by simp[Ou]
 have L:(Rf.given++m).length-7=m.length:=by simp[Ou]
 have a2:(Rf.given++m).length=7+m.length:=by simp[Ou]
 have hF:Cp m=Rf.fieldsTo (Tr.tree m) (Rf.given++m) ((Rf.given++m).length-7):=by rw[L];rfl
 have N:Hs (Mn m) i K.result op (n:Int)=Co (Cp m) i K.result op (n:Int):=by
  rw[hF];refine Bly _ _ F (Nf m) _ _ _ _ (fun h=>?_);have:=e.fld h;rw[<- hF];omega
 have O:Gm (Mn m) i op (n:Int)=Dp (Cp m) i op (n:Int):=by
  rw[hF];refine Bkc _ _ F (Nf m) _ _ _ (fun h=>?_);have:=e.fld (.inl h);rw[<- hF];omega
 rw[Az,N,O,<- Bk9 k.ok (isNew:=J4 (Cd.readL K.code) (n:Int)) (want:=Rf.all (Tr.tree m) (Rf.given++m) (n:Int).toNat)]
 ·-- only Init wants the fields
  by_cases Q:op=16;·have:=e.cls Ck;rw[show Mn m=(Rf.given++m).map Rd.Cls.fields from rfl,Un k.ok (Rf.given++m) Ck Ck,Brx]
  unfold L3 V5;simp only[Pk Q]
 ·exact fun t f=>(j.ts t f).1
 ·exact Bao k s e
 ·exact fun t f=>(Ha (Ub k.fl _ _ t f)).1
 ·exact Zy _ _ _ _
 ·exact j.hi
 ·intro h;have:=e.loc h;have:=j.lo;have:=g.rd.lo;omega
 intro _ t f V;exact Bkf g.unread ((j.ts t f).2 V) _
def Ba8{z:TI}{mp:Int->Option Bf}{H:Int}{R:Option Bf}{op n c e:Int}(h:J1 z mp H R op n c e=0):∃y,R=some y:=by
 unfold J1 at h;by_cases b:H≠0;·rw[Th b]at h;exact absurd h b
 rw[Pk b]at h;cases R with
 | none=>simp at h
 | some y=>exact⟨y,rfl⟩
def Bo5{z:TI}{c:Int}{i:List Rd.Mth}{K:Rd.Mth}(g:Pa z c i K):∀h∈K.handlers,Tr.Arg z 3 h.cl:=by
 intro h b;have:=g.hnd h b;unfold Cd.hndBad at this;simp only[Bty,Bool.not_eq_false']at this;exact Us (Kh.1 this.1.2)
def Ba9{m:List Rd.Cls}{i:List Rd.Mth}(k:Kn m i){K:Rd.Mth}(b:K∈i){u:Nat}(c:u∈Cd.places K.code){x:Bf}(e:Io (Tr.tree m) K x):Ol m i K (Cd.insAt K.code u) x=Nt m i K u x:=by
 have g:=k.mt K b;obtain⟨C,j⟩:=Nw g.unread u c;have f:∀q z,D9 K q=some z->Hy (Tr.tree m) z:=fun q z h=>Lh (Rp g h);unfold Ol Nt;have l:(Cd.insAt K.code u).op=K.code.getD u 0:=rfl;have s:(Cd.insAt K.code u).place=(u:Int):=rfl;rw[Up k b c e,l,s,Brx,X8 k.ok _ f _ _ (fun t v=>(e.tl t v).1) _ (Bo5 g),
  Bo1 k.ok _ f _ _ (fun y A=>Lh (Pg k b c e A))]
 have D:=Cd.wd_bd (K.code.getD u 0);by_cases B:Cd.wd (K.code.getD u 0)=2;·rw[(Vv j B).1]
 exact Bqn Ck _ _
def Bkx{m:List Rd.Cls}{i:List Rd.Mth}(k:Kn m i){K:Rd.Mth}(b:K∈i):Ld m i K=Hk m i K:=by
 have g:=k.mt K b;unfold Ld Hk Gs;rw[Vq g.unread];refine Bd9 k.ok (D9 K) (Ec m i K) (Nt m i K) K.code (Ol m i K) (It m i K) (Io (Tr.tree m) K) (fun x h=>Lh h) (fun q z h=>Rp g h) (Er K) (Pt g) ?_;intro p c x e;refine⟨Ba9 k b c e,fun j=>?_⟩;obtain⟨y,f⟩:=Ba8 j;exact⟨y,f,by rw[Up k b c e,f],Pg k b c e f⟩
structure Mj(cs:List Rd.Cls)(ms:List Rd.Mth)(f:RFl)(m:RMV)(y:Rf.Mth)(w:World):Prop where
 k:Kn cs ms
 ok:f.ok w
 l:f.l.map Prod.fst=Rf.given++cs
 eq:f.ms.map (fun z=>z.1.m)=ms
 mem:y.m∈ms
 is:m.is y w f.bb
def Mj.below{m:List Rd.Cls}{i:List Rd.Mth}{f:RFl}{b:RMV}{y:Rf.Mth}{w s:TW}(h:Mj m i f b y w)(c:Bl w s):Mj m i f b y s:=⟨h.k,h.ok.below c,h.l,h.eq,h.mem,h.is.below c⟩
def Mj.T{m:List Rd.Cls}{i:List Rd.Mth}{f:RFl}{b:RMV}{y:Rf.Mth}{w:TW}(h:Mj m i f b y w):f.T=Tr.tree m:=(Kk f.l m h.l).1
def Mj.F{m:List Rd.Cls}{i:List Rd.Mth}{f:RFl}{b:RMV}{y:Rf.Mth}{w:TW}(h:Mj m i f b y w):f.fields=Cp m:=by
 obtain⟨c,_,e⟩:=Kk f.l m h.l;unfold RFl.fields Cp;rw[c,h.l,e,show 7+m.length-7=m.length by omega]
def Mj.size{m:List Rd.Cls}{i:List Rd.Mth}{f:RFl}{b:RMV}{y:Rf.Mth}{w:TW}(h:Mj m i f b y w):b.code.size=y.m.code.length:=by rw[<- h.is.code,He]
def Rm{m:List Rd.Cls}{p:List Rd.Mth}{f:RFl}{b:RMV}{y:Rf.Mth}{w:TW}(h:Mj m p f b y w)(q:Int):Calls prog 172 #[b.val,.i q] w fun e l=>∃u:FrV,e=.r (.tuple #[u.val,.bool (D9 y.m q).isSome])/\u.is (Cu (D9 y.m q)) l/\Bl w l:=by
 have g:=h.k.mt y.m h.mem;obtain⟨c,j,s⟩:=h.is.mp;have t:c.length=y.m.maps.length:=by rw[<- j];simp
 have A:=g.bd.mp;have v:∀q∈c,q.1.locals.length<=5000/\q.1.stack.length<=5000:=fun q z=>by
  have:q.1∈y.m.maps:=by rw[<- j];exact List.mem_map.2 ⟨q,z,rfl⟩
  have:=g.bd.fr _ this;omega
 have:=Bgw b c f.bb q w (by rw[h.is.ml];exact t.symm) Ck v s;rw[j]at this;exact this
def Xq{m:List Rd.Cls}{i:List Rd.Mth}{f:RFl}{b:RMV}{y:Rf.Mth}{w:TW}(h:Mj m i f b y w):Calls prog 174 #[b.val] w fun e c=>∃u:FrV,e=.returned u.val/\u.is (Er y.m) c/\Bl w c:=by
 have g:=h.k.mt y.m h.mem;have j:=g.rd.lo;have:=Bgu b y.m.params y.m.locals.toNat w (by rw[h.is.lo];omega) Ck (TyR.of_tys h.is.ps) (by have:=g.bd.ps;omega);rw[h.is.cl]at this;exact this
def Zh{m:List Rd.Cls}{p:List Rd.Mth}{f:RFl}{b:RMV}{y:Rf.Mth}{w:TW}(h:Mj m p f b y w)(q:Nat)(v:FrV)(x:Bf)(D:q∈Cd.places y.m.code)(N:v.is x w)(s:Io (Tr.tree m) y.m x):Calls prog 227 #[f.val,b.val,.i (q:Int),v.val] w fun e G=>∃u:FrV,e=.r (.tuple #[u.val,.bool (Ec m p y.m q x).isSome])/\(∀z,Ec m p y.m q x=some z->u.is z G)/\Bl w G:=by
 have g:=h.k.mt y.m h.mem;have B:=h.is;have O:=h.T;have I:=h.F;have C:=h.eq;have Q:=h.l;have j:=h.is.code;have a1:=h.size;have a2:=g.bd.code;have V:b.code.size<=100000:=Ck;have a3:=Px m;have a4:=Ie m;have eL:=(Kk f.l m h.l).2.2;have a5:f.ms.length=p.length:=by rw[<- C];simp
 have Y:(b.r1,b.r2)=y.m.result:=by rw[B.r1,B.r2]
 have Z:∀z∈f.ms,z.1.m.params.length<=1000:=fun z hz=>by
  have:z.1.m∈p:=by rw[<- C];exact List.mem_map.2 ⟨z,hz,rfl⟩
  have:=(h.k.mt _ this).bd.ps;omega
 have A:=Sz g D;have a6:q<y.m.code.length:=Ty D;have a7:=g.rd.lo;have a8:=g.rd.st;have a0:=fun J (K:Bl w J)=>Bgv f b q v x J (h.ok.below K) Ck V (N.below K) (by rw[s.lo];omega) (by have:=s.hi;omega)
  (fun t ht h4=>by have:=Mr ((s.ts t ht).2 h4).1;omega) Z (by rw[j,Ll,j];intro h;have:=A.fld h;rw[I];omega) (by rw[j,Ll,j];intro h;have:=A.mth h;omega)
  (by rw[j,Ll,j];intro h;have:=A.loc h;have:=s.lo;omega) (by rw[j,Ll,j];intro h;have:=A.cls (.inr (.inl h));omega)
 have L:=Bje f b q v _ w a0;have e:Es b.st (D7 f.T f.fields (f.ms.map fun x=>x.1.m) (fun c=>Rf.all f.T (f.l.map Prod.fst) c.toNat) (fun q=>Rf.at' b.code.data.toList (q+1)) (b.r1,b.r2) (q:Int) ((Ca b.code).getD q 0) (Rf.at' b.code.data.toList ((q:Int)+1)) x)=Ec m p y.m q x:=by
  unfold Ec;simp only[Ll];rw[B.st,O,I,C,Q,Y,j]
 rw[e]at L;exact L
def Bgx{m:List Rd.Cls}{l:List Rd.Mth}{f:RFl}{b:RMV}{y:Rf.Mth}{w:TW}(h:Mj m l f b y w)(q:Nat)(v:FrV)(x:Bf)(s:q∈Cd.places y.m.code)(t:v.is x w)(z:Io (Tr.tree m) y.m x):Calls prog 176 #[f.val,b.val,.i (q:Int),v.val] w fun e A=>e=.r (.i (Nt m l y.m q x))/\Bl w A:=by
 have g:=h.k.mt y.m h.mem;have B:=h.is.code;have C:=h.size;have I:=g.bd.code;have D:b.code.size<=100000:=Ck;have J:q<y.m.code.length:=Ty s;have p:=RFl.fitsAs h.ok;rw[h.T]at p;have K:=g.bd.hs;have F:=fun j (c:Bl w j)=>Bb0 f.v (Tr.tree m) b y.m.handlers f.bb (D9 y.m) (q:Int) v x j (p.below c) h.is.hl Ck (h.is.below c).hs (fun q L G=>Rm (h.below (QB c G)) q) (t.below c);have:=Bji f.v (Tr.tree m) b q (D9 y.m) (Fb (Tr.tree m) (D9 y.m) (q:Int) x.locals y.m.handlers) (Ec m l y.m q x) v w p Ck D F
  (fun j c=>Zh (h.below c) q v x s (t.below c) z)
  (fun q j c=>Rm (h.below c) q)
 rw[Ll,B,C]at this;exact this
def Beu{m:List Rd.Cls}{l:List Rd.Mth}{f:RFl}{b:RMV}{y:Rf.Mth}{w:TW}(h:Mj m l f b y w)(q:Nat)(C:q<=100000):Calls prog 175 #[f.val,b.val,.i (q:Int)] w fun e A=>∃u:FrV,e=.r (.tuple #[u.val,.bool (Gs m l y.m q).isSome])/\(∀z,Gs m l y.m q=some z->u.is z A/\Io (Tr.tree m) y.m z)/\Bl w A:=by
 have g:=h.k.mt y.m h.mem;have s:=h.is.code;have I:=h.size;have J:=g.bd.code;have D:b.code.size<=100000:=Ck;have:=Bg1 f.v b q (fun p=>D9 y.m (p:Int)) (Ec m l y.m) (Er y.m) (Io (Tr.tree m) y.m) w D C (fun B c=>Xq (h.below c)) (fun q B c=>Rm (h.below c) q)
  (fun q v x B c j F t=>by rw[s]at j;exact Zh (h.below c) q v x j F t) (Pt g) (fun q z h=>Rp g h) (fun q x z j t G=>by rw[s]at j;exact Pg h.k h.mem j t G)
 rw[s]at this;exact this
def Bb2{m:List Rd.Cls}{j:List Rd.Mth}{f:RFl}{b:RMV}{y:Rf.Mth}{w:TW}(h:Mj m j f b y w):Calls prog 119 #[f.val,b.val] w fun e l=>e=.r (.tuple #[.i (Hk m j y.m).1,.i (Hk m j y.m).2])/\Bl w l:=by
 have g:=h.k.mt y.m h.mem;have t:=h.is.code;have D:=h.size;have F:=g.bd.code;have A:b.code.size<=100000:=Ck;have z:=RFl.fitsAs h.ok;rw[h.T]at z;have:=Bcy f.v (Tr.tree m) b (fun p=>D9 y.m (p:Int)) (Er y.m) (Io (Tr.tree m) y.m) (Gs m j y.m) (Nt m j y.m) w A z (fun l c=>Xq (h.below c)) (fun q l c=>Rm (h.below c) q)
  (fun q l c s=>Beu (h.below c) q s) (fun q v x l c s B C=>by rw[t]at s;exact Bgx (h.below c) q v x s B C)
 rw[t]at this;exact this
def Gv (s:TB):Int × Int × Int:=J6 (Rf.formed s) (Eu (Hk (Rd.read s).1.classes (Rd.read s).1.methods) 0 (Rd.read s).1.methods)
def Bg3(s:ByteArray)(w:TW)(l:s.size<=maxLen):Calls prog 75 #[.string s] w fun e c=>e=.r (.tuple #[.i (Gv s.data.toList).1,.i (Gv s.data.toList).2.1,.i (Gv s.data.toList).2.2])/\Bl w c:=by
 have h:=Bg2 s (Hk (Rd.read s.data.toList).1.classes (Rd.read s.data.toList).1.methods) w l (fun b f m x c A p g q t v=>by
  obtain⟨k,z,j⟩:=Kb _ b;rw[z]at g;refine Bb2 ⟨k,p,g,?_,?_,v⟩
  ·rw[<- j,<- q,Bvg];rfl
  rw[<- j];exact List.mem_map.2 ⟨x,t,rfl⟩)
 by_cases b:(Rf.formed s.data.toList).1=0;·rw[(Kb _ b).2.2]at h;exact h
 have e:∀V,J6 (Rf.formed s.data.toList) V=Rf.formed s.data.toList:=fun V=>by unfold J6;rw[Th b]
 unfold Gv;rw[e];rw[e]at h;exact h
def Ka (lcs:List (Rd.Cls × Value)):List (Value × List (Int × Int)):=List.replicate 7 (.slice none 0 0,[])++lcs.map fun p=>(p.2,p.1.fields)
def Bku(b:List (Rd.Cls×Value)):(Ka b).map Prod.fst=Tr.fvals b:=by
 unfold Ka Tr.fvals;rw[Bse,List.map_replicate,Bvg];rfl
def Bkt(b:List (Rd.Cls×Value)):(Ka b).map Prod.snd=Mn (b.map Prod.fst):=by
 unfold Ka Mn;rw[Bse,List.map_replicate,Bvg,Bse,Bvg];rfl
def Aa(b:List (Rd.Cls×Value)):(Ka b).length=7+b.length:=by unfold Ka;simp;omega
def Bo7{z:TI}(h:∀x∈z,x<=255)(i:Nat):z.getD i 0<=255:=by
 by_cases b:i<z.length;·exact h _ (Hf b)
 rw[Vm,Bs3 Ck];simp
structure Uc(cs:List Rd.Cls)(ms:List Rd.Mth)(lcs:List (Rd.Cls × Value))(lms:List (Rd.Mth × Ex))(b:PBd)(m:Rd.Mth)(bm:Nat)(w:World):Prop where
 k:Kn cs ms
 ec:lcs.map Prod.fst=cs
 em:lms.map Prod.fst=ms
 mem:m∈ms
 T:b.T=Tr.tree cs
 L:b.L=Cd.readL m.code
 ru:Ru b w 0 lms (Ka lcs)
 is:(⟨b.cl,b.nm,b.pa,b.pl,b.pc,b.r1,b.r2,b.lo,b.st,b.ca,b.cn,b.cc,b.ha,b.hl,b.hc,b.ma,b.ml,b.mc⟩:PM).is m w bm
def Uc.below{m:List Rd.Cls}{i:List Rd.Mth}{Q:List (Rd.Cls×Value)}{c:List (Rd.Mth×Ex)}{b:PBd}{K:Rd.Mth}{u:Nat}{w s:TW}(h:Uc m i Q c b K u w)(e:Bl w s):Uc m i Q c b K u s :=
 ⟨h.k,h.ec,h.em,h.mem,h.T,h.L,h.ru.below e,h.is.below e⟩
def Ui{m:List Rd.Cls}{i:List Rd.Mth}{Q:List (Rd.Cls×Value)}{T:List (Rd.Mth×Ex)}{b:PBd}{K:Rd.Mth}{u:Nat}{w:TW}(h:Uc m i Q T b K u w):Ob b (D9 K) w:=by
 intro q j l;have f:=h.below l;have g:=h.k.mt K h.mem;obtain⟨c,e,p⟩:=f.is.mp;have v:c.length=K.maps.length:=by rw[<- e];simp
 have z:=g.bd.mp;have s:∀q∈c,q.1.locals.length<=5000/\q.1.stack.length<=5000:=fun q t=>by
  have:q.1∈K.maps:=by rw[<- e];exact List.mem_map.2 ⟨q,t,rfl⟩
  have:=g.bd.fr _ this;omega
 have:=Bg7 b c u q j (by have:=f.is.ml;simp only at this;omega) Ck s p;rw[e]at this;exact this
def Bev{m:List Rd.Cls}{l:List Rd.Mth}{Q:List (Rd.Cls×Value)}{T:List (Rd.Mth×Ex)}{b:PBd}{K:Rd.Mth}{u:Nat}{w:TW}(h:Uc m l Q T b K u w):Calls prog 110 #[.agg #[.i b.cl,.i b.nm,.s b.pa b.pl b.pc,.i b.r1,.i b.r2,.i b.lo,.i b.st,.s b.ca b.cn b.cc,.s b.ha b.hl b.hc,.s b.ma b.ml b.mc]] w fun e j=>∃c:FrV,e=.returned c.val/\c.is (Er K) j/\Bl w j:=by
 have g:=h.k.mt K h.mem;have q:=g.rd.lo;have p:=h.is.lo;have f:=h.is.cl;simp only at p f;have:=Bg6 ⟨b.cl,b.nm,b.pa,b.pl,b.pc,b.r1,b.r2,b.lo,b.st,b.ca,b.cn,b.cc,b.ha,b.hl,b.hc,b.ma,b.ml,b.mc⟩ K.params K.locals.toNat w Mc Ck (TyR.of_tys h.is.ps) (by have:=g.bd.ps;omega);simp only[PM.val,f]at this;unfold Er;rw[f];exact this
def Bc4{m:List Rd.Cls}{f:List Rd.Mth}{Q:List (Rd.Cls×Value)}{j:List (Rd.Mth×Ex)}{b:PBd}{K:Rd.Mth}{u:Nat}{w:TW}(h:Uc m f Q j b K u w)(p:Nat)(v:FrV)(x:Bf)(l:p∈Cd.places K.code)(C:v.is x w)(s:Io (Tr.tree m) K x):Calls prog 221 #[b.val,.agg #[.i (p:Int),.i (Cd.insAt K.code p).op,.i (Cd.insAt K.code p).n],v.val] w fun e t=>∃c:FrV,e=.r (.tuple #[c.val,.bool (It m f K (Cd.insAt K.code p) x).isSome])/\(∀y,It m f K (Cd.insAt K.code p) x=some y->c.is y t)/\Bl w t:=by
 have g:=h.k.mt K h.mem;obtain⟨Z,D⟩:=Nw g.unread p l;have F:=Sz g l;have a0:=g.rd.lo;have a1:=g.rd.st;have a2:0<=(Cd.insAt K.code p).n:=by
  unfold Cd.insAt;simp only
  split
  ·exact Vx g.bd.code0 _
  omega
 have G:(Cd.insAt K.code p).op=20\/(Cd.insAt K.code p).op=21->(Cd.insAt K.code p).n.toNat<j.length:=by
  intro I;have J:K.code.getD p 0=20\/K.code.getD p 0=21:=I;have N:Cd.wd (K.code.getD p 0)=2:=by unfold Cd.wd;rw[Th Ck]
  have:=F.mth J;rw[(Vv D N).1];have:f.length=j.length:=by rw[<- h.em];simp
  omega
 have O:(Cd.insAt K.code p).n.toNat<=100000:=by
  have:(Cd.insAt K.code p).n<=255:=by
   unfold Cd.insAt;simp only
   split
   ·exact Bo7 g.rd.c255 _
   omega
  omega
 have V:∀q∈j,q.1.params.length<=1000:=fun q Y=>by
  have:q.1∈f:=by rw[<- h.em];exact List.mem_map.2 ⟨q,Y,rfl⟩
  have:=(h.k.mt _ this).bd.ps;omega
 have:=Bey b 0 j (Ka Q) (p:Int) (Cd.insAt K.code p).op (Cd.insAt K.code p).n.toNat v x w h.ru C O (by rw[s.lo];omega) (by have:=s.hi;omega) V G;have z:=h.is.st;have A:=h.is.r1;have B:=h.is.r2;simp only at z A B;rw[show (((Cd.insAt K.code p).n.toNat:Nat):Int)=(Cd.insAt K.code p).n by omega,Bkt,h.em,h.ec,h.T,h.L,z,show (b.r1,b.r2)=K.result by rw[A,B]]at this;exact this
def Bg8{m:List Rd.Cls}{f:List Rd.Mth}{Q:List (Rd.Cls×Value)}{G:List (Rd.Mth×Ex)}{b:PBd}{K:Rd.Mth}{u:Nat}{w:TW}(h:Uc m f Q G b K u w)(p:Nat)(v:FrV)(x:Bf)(l:p∈Cd.places K.code)(t:v.is x w)(q:Io (Tr.tree m) K x):Calls prog 186 #[b.pval,.agg #[.i (p:Int),.i (Cd.insAt K.code p).op,.i (Cd.insAt K.code p).n],v.val] w fun e z=>∃c:FrV,e=.r (.tuple #[c.val,.i (Ol m f K (Cd.insAt K.code p) x)])/\(Ol m f K (Cd.insAt K.code p) x=0->∃y,It m f K (Cd.insAt K.code p) x=some y/\c.is y z/\Io (Tr.tree m) K y)/\Bl w z:=by
 have g:=h.k.mt K h.mem;have O:p<K.code.length:=Ty l;have V:=g.bd.code;have Y:=g.bd.hs;have A:=h.is.cn;have B:=h.is.hl;simp only at A B;have I:=fun s (j:Bl w s)=>Bg9 b (D9 K) K.handlers u (p:Int) v x s h.ru.tl (h.ru.below j).tr (Ui (h.below j)) B Ck (h.is.below j).hs (t.below j);have:=Bjn b (D9 K) p (Cd.insAt K.code p).op (Cd.insAt K.code p).n (Gj b.T (D9 K) (p:Int) x.locals K.handlers) (It m f K (Cd.insAt K.code p) x) v w h.ru.tl h.ru.tr (Ui h) Ck I (fun s j=>Bc4 (h.below j) p v x l (t.below j) q);rw[h.T,A]at this;refine this.mono ?_;rintro e s ⟨c,rfl,J,L⟩;refine⟨c,rfl,fun C=>?_,L⟩;have N:=Ba9 h.k h.mem l q;obtain⟨y,D⟩:=Ba8 (show Nt m f K p x=0 by rw[<- N];exact C);have F:It m f K (Cd.insAt K.code p) x=some y:=by rw[Up h.k h.mem l q];exact D
 exact⟨y,F,J C y F,Pg h.k h.mem l q D⟩
def Bhb{m:List Rd.Cls}{i:List Rd.Mth}{Q:List (Rd.Cls×Value)}{s:List (Rd.Mth×Ex)}{b:PBd}{K:Rd.Mth}{u:Nat}{w:TW}(h:Uc m i Q s b K u w):Calls prog 129 #[b.pval] w fun e f=>e=.r (.agg #[.i (Ld m i K).1,.i 0,.i (Ld m i K).2])/\Bl w f:=by
 have g:=h.k.mt K h.mem;have:=Bjr b (D9 K) (Ol m i K) (It m i K) (Er K) (Io (Tr.tree m) K) 0 w h.ru.tl h.ru.tr (Ui h) h.ru.ll h.ru.ins (fun f j=>Bev (h.below j))
  (fun c l v x f j t A=>by
   rw[h.L,Vq g.unread]at l;obtain⟨p,B,rfl⟩:=List.mem_map.1 l;exact Bg8 (h.below j) p v x B t A) (Pt g) (fun q z C=>Rp g C)
 rw[h.T,h.L]at this;exact this
def Bhc{m:List Rd.Cls}{l:List Rd.Mth}(k:Kn m l){g D:TA}{u b t O F:Nat}{Q:List (Rd.Cls×Value)}{T:List (Rd.Mth×Ex)}{w:TW}(A:Q.map Prod.fst=m)(K:Fh w F (.s g u b) Q)(B:T.map Prod.fst=l)(G:Eb w F (.s D t O) T):Calls prog 80 #[.agg #[.s g u b,.s D t O]] w fun e N=>e=.r (.agg #[.i (Ff (Ld m l) 0 l).1,.i (Ff (Ld m l) 0 l).2.1,.i (Ff (Ld m l) 0 l).2.2])/\Bl w N:=by
 obtain⟨xa,xc,z⟩:=Bh G.1;simp only[Value.slice.injEq]at z;obtain⟨rfl,rfl,rfl⟩:=z;have a7:Q.length=m.length:=by rw[<- A];simp
 have a8:T.length=l.length:=by rw[<- B];simp
 have a9:=k.l6;have b0:=k.m6;have b1:=Ie m;have C:∀p∈T,p.1∈l:=fun p v=>by rw[<- B];exact List.mem_map.2 ⟨p,v,rfl⟩
 have:=Bjs g D u b O F Q T (Ld m l) w Ck K Ck G (fun p v=>⟨by have:=(k.mt _ (C p v)).bd.code;omega,(k.mt _ (C p v)).bd.code0⟩)
  (fun p v f bb N V e1 e2 e3 e4 Y e6 I Z a3 a0 a4 a5=>by
   have h:=k.mt _ (C p v);rw[A]at I;obtain⟨ya,yc,z⟩:=Bh a0;simp only[Value.slice.injEq]at z;have a6:f.yn=(Ka Q).length:=by rw[Aa];exact z.2.1
   have b2:f.L.length<=120:=by
    rw[Z,Vq h.unread];have:=Bbd p.1.code;have:=h.bd.code;omega
   refine Bhb ⟨k,A,B,C p v,I,Z,⟨Y,Ck,?_,a6,by rw[Aa];omega,?_,⟨?_,?_⟩,by rw[I];omega,a3,Ck,D6 a5 (Bsb _)⟩,a4⟩
   ·rw[e4,Y,e6];exact(G.kp (Kp.of_below (e:=none) V) Fm Fm Fm Fm Fm).mono (Bsb _)
   ·intro q j;unfold Ka at j;rcases List.mem_append.1 j with j|j
    ·rw[(List.mem_replicate.1 j).2];simp
    obtain⟨c,J,rfl⟩:=List.mem_map.1 j;exact k.fn c.1 (by rw[<- A];exact List.mem_map.2 ⟨c,J,rfl⟩)
   ·rw[Bku,Aa];exact D6 a0 (Bsb _)
   intro q j;unfold Ka at j;rcases List.mem_append.1 j with j|j
   ·rw[(List.mem_replicate.1 j).2];exact TyR.nil _
   obtain⟨c,J,rfl⟩:=List.mem_map.1 j;exact TyR.of_tys ((K.kp (Kp.of_below (e:=none) V) Fm Fm).2 c J))
 rw[B]at this;exact this
def Wz(f:Rd.Mth->Int×Int):∀(l:List Rd.Mth) (k:Nat),(Eu f k l).1=0->Eu f k l=(0,0,0)
 | [],_,_=>rfl
 | m::r,k,h=>by
  rw[Eu]at h ⊢;by_cases b:(f m).1≠0;·rw[Th b]at h;exact absurd h b
  rw[Pk b]at h ⊢;exact Wz f r _ h
def Bh2(s:TB):Om (Gx s) (Ff (Ld (Rd.read s).1.classes (Rd.read s).1.methods) 0 (Rd.read s).1.methods)=J6 (Rf.formed s) (Eu (Hk (Rd.read s).1.classes (Rd.read s).1.methods) 0 (Rd.read s).1.methods):=by
 rw[Rn];unfold Om J6;by_cases b:(Rf.formed s).1≠0;·rw[Th b,Th b]
 rw[Pk b,Pk b];obtain⟨k,_,_⟩:=Kb s (by simpa using b);rw[Ab _ (Hk (Rd.read s).1.classes (Rd.read s).1.methods) _ _ (fun m c=>Bkx k c)]
 split
 ·rfl
 rename_i e;exact(Wz _ _ _ (by simpa using e)).symm
structure Bij where
 fr:Bf
 st:Bool
 ri:Bool
 wa:Bool
def Bqz:Bij:=⟨⟨[],[]⟩,false,false,false⟩
structure Bik where
 sp:List Bij
 hop:Bool
def Bik.at(s:Bik)(q:Nat):Bij:=s.sp.getD q Bqz
abbrev V8(T:List Int)(s t:Int × Int):Prop:=Tr.fitsB T s.1 s.2 t.1 t.2=true
def Do (T:TI):TP->TP->Prop
 | [],[]=>True
 | s::a,t::b=>V8 T s t/\Do T a b
 | _,_=>False
def Do.nil{z:TI}:Do z [] []:=trivial
def Do.cons{z:TI}{C t:Int×Int}{a p:TP}(h:V8 z C t)(k:Do z a p):Do z (C::a) (t::p):=⟨h,k⟩
def Do.el{T:TI}{P:(a b:TP)->Do T a b->Prop}(nil:P [] [] .nil)(cons:∀{s t:Int×Int}{a b:TP} (h:V8 T s t) (k:Do T a b),P a b k->P (s::a) (t::b) (.cons h k)):∀{a b:TP} (h:Do T a b),P a b h
 | [],[],_=>nil
 | [],_::_,h=>False.elim h
 | _::_,[],h=>False.elim h
 | _::_,_::_,h=>cons h.1 h.2 (Do.el nil cons h.2)
structure Lu(T:List Int)(x y:Bf):Prop where
 lo:Do T x.locals y.locals
 st:Do T x.stack y.stack
def Do.len{z:TI}{a p:TP}(h:Do z a p):a.length=p.length:=by
 induction h using Do.el with
 | nil=>rfl
 | cons _ _ ih=>simp[ih]
def Do.refl(T:TI)(a:TP):Do T a a:=by
 induction a with
 | nil=>exact .nil
 | cons x r ih=>exact .cons (Tr.fits_refl _ _ _) ih
def Do.getD{z:TI}{a p:TP}(h:Do z a p)(i:Nat):V8 z (a.getD i (0,0)) (p.getD i (0,0)):=by
 induction h using Do.el generalizing i with
 | nil=>exact Tr.fits_refl _ _ _
 | cons h1 _ ih =>
  cases i with
  | zero=>simpa using h1
  | succ i=>simpa using ih i
def Do.set{z:TI}{a b:TP}(h:Do z a b)(i:Nat){C t:Int×Int}(c:V8 z C t):Do z (a.set i C) (b.set i t):=by
 induction h using Do.el generalizing i with
 | nil=>exact .nil
 | cons h1 h2 ih =>
  cases i with
  | zero=>exact .cons c h2
  | succ i=>exact .cons h1 (ih i)
def Do.take{z:TI}{a p:TP}(h:Do z a p)(i:Nat):Do z (a.take i) (p.take i):=by
 induction h using Do.el generalizing i with
 | nil=>simpa using Do.nil
 | cons h1 h2 ih =>
  cases i with
  | zero=>exact .nil
  | succ i=>exact .cons h1 (ih i)
def Do.drop{z:TI}{a p:TP}(h:Do z a p)(i:Nat):Do z (a.drop i) (p.drop i):=by
 induction h using Do.el generalizing i with
 | nil=>simpa using Do.nil
 | cons h1 h2 ih =>
  cases i with
  | zero=>exact .cons h1 h2
  | succ i=>exact ih i
def Do.append{z:TI}{a p c d:TP}(h:Do z a p)(g:Do z c d):Do z (a++c) (p++d):=by
 induction h using Do.el with
 | nil=>exact g
 | cons h1 _ ih=>exact .cons h1 ih
def Bd6{z:TI}{C:Int×Int}{c:Int}(h:V8 z C (4,c)):C=(4,c):=by
 rcases(Tr.fits_iff ..).1 h with ⟨a,b⟩ | e|⟨e,_⟩|⟨e,_⟩
 ·exact Btq a b
 ·exact absurd e Hd
 ·exact absurd e Hd
 exact absurd e Hd
def Bmc{z:TI}{C:Int×Int}{c:Int}(h:V8 z (4,c) C):C=(4,c)\/C.1=0:=by
 rcases(Tr.fits_iff ..).1 h with ⟨a,b⟩ | e|⟨_,e⟩|⟨_,e,_⟩
 ·exact .inl (Btq a.symm b.symm)
 ·exact .inr e
 ·exact absurd e Hd
 exact absurd e Hd
def Do.turned{z:TI}{a p:TP}(h:Do z a p)(c:Int)(u:Int×Int):Do z (Ci (4,c) u a) (Ci (4,c) u p):=by
 induction h using Do.el with
 | nil=>exact .nil
 | @cons s t a p h1 _ ih =>
  refine Do.cons ?_ ih;show V8 z (if s=(4,c) then u else s) (if t=(4,c) then u else t)
  by_cases e:s=(4,c)
  ·subst e;rw[Th rfl];rcases Bmc h1 with rfl|f
   ·rw[Th rfl];exact Tr.fits_refl _ _ _
   rw[Pk (by rintro rfl;simp at f)];exact(Tr.fits_iff ..).2 (.inr (.inl f))
  rw[Pk e];by_cases g:t=(4,c);·subst g;exact absurd (Bd6 h1) e
  rw[Pk g];exact h1
def Bkv{z:TI}(l:Tr.Ok z){a p:TP}(h:Do z a p)(g:∀t∈a,Tr.Arg z t.1 t.2)(i:∀t∈p,Tr.Arg z t.1 t.2):∀{c:TP},(∀t∈c,Tr.Arg z t.1 t.2)->Ee z p c=true->Ee z a c=true:=by
 induction h using Do.el with
 | nil=>exact fun _ h=>h
 | cons h1 _ ih =>
  intro c j f;cases c with
  | nil=>simp[Ee]
  | cons u c =>
   simp only[Ee,Bsq]at f ⊢;exact⟨Tr.fits_trans l (g _ Hd) (i _ Hd) (j _ Hd) h1 f.1,ih (fun t e=>g t (by simp[e])) (fun t e=>i t (by simp[e])) (fun t e=>j t (by simp[e])) f.2⟩
def Bi1{z:TI}(g:Tr.Ok z){a p c:TP}(h:Do z a p)(j:∀t∈a,Tr.Arg z t.1 t.2)(l:∀t∈p,Tr.Arg z t.1 t.2)(i:∀t∈c,Tr.Arg z t.1 t.2)(f:Ey z p c=true):Ey z a c=true:=by
 unfold Ey at f ⊢;rw[h.len];by_cases m:p.length<c.length;·rw[Th m]at f;cases f
 rw[Pk m]at f ⊢;rw[Ni g _ _ (fun t e=>l t (Btk e)) i]at f;rw[Ni g _ _ (fun t e=>j t (Btk e)) i];exact Bkv g (h.drop _) (fun t e=>j t (Btk e)) (fun t e=>l t (Btk e)) i f
def Bhe{z:TI}(v:Tr.Ok z){q lv want:TP}{arg:Int->Int}{c op n:Int}{x y b:Bf}(A:Hy z x)(B:Hy z y)(O:∀t∈q,Tr.Arg z t.1 t.2)(Q:∀t∈want,Tr.Arg z t.1 t.2)(h:Lu z x y) (f:K9 z q lv want arg c op n y=some b):∃u,K9 z q lv want arg c op n x=some u/\Lu z u b:=by
 have el:=h.lo.len;have j:=h.st.len;unfold K9 at f ⊢;by_cases C:op=2
 ·rw[Th C]at f ⊢;have l:=h.lo.getD n.toNat;by_cases D:(y.locals.getD n.toNat (0,0)).1=0;·rw[Th D]at f;cases f
  rw[Pk D]at f;have V:(x.locals.getD n.toNat (0,0)).1≠0:=by
   intro e;rcases(Tr.fits_iff ..).1 l with ⟨a,_⟩ | a|⟨_,a⟩|⟨_,a,_⟩<;>omega
  rw[Pk V];cases f;exact⟨_,rfl,h.lo,h.st.append (.cons l .nil)⟩
 rw[Pk C]at f ⊢;by_cases F:op=3
 ·rw[Th F,j]at *;by_cases g:y.stack.length<1;·rw[Th g]at f;cases f
  rw[Pk g]at f ⊢;cases f;exact⟨_,rfl,h.lo.set _ (h.st.getD _),h.st.take _⟩
 rw[Pk F]at f ⊢;by_cases G:op=4
 ·rw[Th G,j]at *;by_cases g:y.stack.length<1;·rw[Th g]at f;cases f
  rw[Pk g]at f ⊢;cases f;exact⟨_,rfl,h.lo,h.st.take _⟩
 rw[Pk G]at f ⊢;by_cases I:op=5
 ·rw[Th I,j]at *;by_cases g:y.stack.length<1;·rw[Th g]at f;cases f
  rw[Pk g]at f ⊢;cases f;exact⟨_,rfl,h.lo,h.st.append (h.st.drop _)⟩
 rw[Pk I]at f ⊢;by_cases J:op=6
 ·rw[Th J,j]at *;by_cases g:y.stack.length<2;·rw[Th g]at f;cases f
  rw[Pk g]at f ⊢;cases f;exact⟨_,rfl,h.lo,(h.st.take _).append (.cons (h.st.getD _) (.cons (h.st.getD _) .nil))⟩
 rw[Pk J]at f ⊢;by_cases K:op=15;·rw[Th K]at f ⊢;cases f;exact⟨_,rfl,h.lo.turned _ _,(h.st.turned _ _).append (.cons (Tr.fits_refl _ _ _) .nil)⟩
 rw[Pk K]at f ⊢;by_cases L:op=16
 ·rw[Th L]at f ⊢;unfold Ns at f ⊢;rw[j]at *;by_cases i:Ey z y.stack want=false;·rw[Th i]at f;cases f
  have s:=Bi1 v h.st A.2 B.2 Q (by simpa using i);rw[Pk i]at f;rw[Pk (by simp[s])];by_cases g:y.stack.length<want.length+1;·rw[Th g]at f;cases f
  rw[Pk g]at f ⊢;have l:=h.st.getD (y.stack.length-want.length-1);have Y:=h.st.take (y.stack.length-want.length-1);generalize y.stack.getD (y.stack.length-want.length-1) (0,0)=r at *;generalize x.stack.getD (y.stack.length-want.length-1) (0,0)=r' at *;by_cases m:r.1≠4;·rw[Th m]at f;cases f
  rw[Pk m]at f;obtain⟨Z,r2⟩:=r;have:Z=4:=by simpa using m
  subst this;have e:=Bd6 l;subst e;rw[Pk m];by_cases N:arg r2≠n;·rw[Th N]at f;cases f
  rw[Pk N]at f ⊢;cases f;exact⟨_,rfl,h.lo.turned _ _,Y.turned _ _⟩
 rw[Pk L]at f ⊢;by_cases i:Ey z y.stack q=false;·rw[Th i]at f;cases f
 have s:=Bi1 v h.st A.2 B.2 O (by simpa using i);rw[Pk i,j]at *;rw[Pk (by simp[s])];cases f;exact⟨_,rfl,h.lo,(h.st.take _).append (.refl _ _)⟩
structure Jv where
 T:List Int
 lo:Nat
 hi:Int
 isN:Int->Prop
 n:Nat
 ps:List Nat
 hs:List Rd.Hnd
 rl:Nat->Bf->Option Bf
 op:Nat->Int
 ar:Nat->Int
 x0:Bf
abbrev Jv.I(E:Jv)(x:Bf):Prop:=As E.T E.lo E.hi E.isN x
def Jv.nx(E:Jv)(p:Nat):Int:=(p:Int)+(Cd.wd (E.op p):Int)
structure Jv.Good(E:Jv):Prop where
 T:Tr.Ok E.T
 x0:E.I E.x0
 rl:∀p∈E.ps,∀x y,E.I x->E.rl p x=some y->E.I y
 mono:∀p∈E.ps,∀x y z,E.I x->E.I y->Lu E.T x y->E.rl p y=some z->∃u,E.rl p x=some u/\Lu E.T u z
 tgt:∀p∈E.ps,Ei (E.op p)=true->0<=E.ar p/\E.ar p<(E.n:Int)/\(E.ar p).toNat∈E.ps
 nxt:∀p∈E.ps,E.nx p<(E.n:Int)->(E.nx p).toNat∈E.ps
 hnd:∀h∈E.hs,0<=h.target/\h.target<(E.n:Int)/\h.target.toNat∈E.ps/\Tr.Arg E.T 3 h.cl
 zero:0∈E.ps
 lt:∀p∈E.ps,p<E.n
def Sa (x:Bf)(h:Rd.Hnd):Bf:=⟨x.locals,[(3,h.cl)]⟩
def I8 (E:Jv)(p:Nat)(x:Bf)(q:Int)(y:Bf)(a:Bool):Prop :=
 (∃h,h∈E.hs/\Fo h (p:Int)=true/\q=h.target/\y=Sa x h/\a=true)\/(E.rl p x=some y/\Ei (E.op p)=true/\q=E.ar p/\a=true)\/(E.rl p x=some y/\Dl (E.op p)=true/\q=E.nx p/\a=false)
def I8.hnd{E:Jv}{u:Nat}{x:Bf}(h:Rd.Hnd)(k:h∈E.hs)(c:Fo h (u:Int)=true):I8 E u x h.target (Sa x h) true:=Or.inl ⟨h,k,c,rfl,rfl,rfl⟩
def I8.jmp{E:Jv}{u:Nat}{x:Bf}(y:Bf)(k:E.rl u x=some y)(c:Ei (E.op u)=true):I8 E u x (E.ar u) y true:=Or.inr (Or.inl ⟨k,c,rfl,rfl⟩)
def I8.nxt{E:Jv}{u:Nat}{x:Bf}(y:Bf)(k:E.rl u x=some y)(c:Dl (E.op u)=true):I8 E u x (E.nx u) y false:=Or.inr (Or.inr ⟨k,c,rfl,rfl⟩)
def I8.el{E:Jv}{p:Nat}{x:Bf}{P:(q:Int)->(y:Bf)->(a:Bool)->I8 E p x q y a->Prop}(hnd:∀(h:Rd.Hnd) (k:h∈E.hs) (c:Fo h (p:Int)=true),P _ _ _ (.hnd h k c))(jmp:∀(y:Bf) (k:E.rl p x=some y) (c:Ei (E.op p)=true),P _ _ _ (.jmp y k c))(nxt:∀(y:Bf) (k:E.rl p x=some y) (c:Dl (E.op p)=true),P _ _ _ (.nxt y k c)){q:Int}{y:Bf}{a:Bool}(h:I8 E p x q y a):P q y a h:=by
 rcases h with ⟨h,k,c,rfl,rfl,rfl⟩|⟨k,c,rfl,rfl⟩|⟨k,c,rfl,rfl⟩
 ·exact hnd h k c
 ·exact jmp y k c
 exact nxt y k c
structure Bq0(E:Jv)(F:Nat->Option Bf)(W:Nat->Prop)(p:Nat)(x:Bf):Prop where
 rl:∃y,E.rl p x=some y
 go:∀q y a,I8 E p x q y a->0<=q/\q<(E.n:Int)/\(y.stack.length:Int)<=E.hi/\(∃z,F q.toNat=some z/\Lu E.T y z)/\(a=true->W q.toNat)
structure Blh(E:Jv)(F:Nat->Option Bf):Prop where
 inv:∀p x,F p=some x->E.I x
 x0:∃y,F 0=some y/\Lu E.T E.x0 y
 sat:∀p∈E.ps,∀x,F p=some x->Bq0 E F (fun _=>True) p x
def Bq1 (E:Jv)(p q:Nat):Prop:=(∃h∈E.hs,Fo h (p:Int)=true/\h.target.toNat=q)\/(Ei (E.op p)=true/\(E.ar p).toNat=q)
def Lu.refl(T:TI)(x:Bf):Lu T x x:=⟨.refl _ _,.refl _ _⟩
def Pj{T:TI}:∀{a b:TP},a.length=b.length->(Ee T a b=true<->Do T a b)
 | [],[],_=>⟨fun _=>.nil,fun _=>rfl⟩
 | [],_::_,h=>by simp at h
 | _::_,[],h=>by simp at h
 | s::a,t::b,h=>by
  have c:=Pj (T:=T) (a:=a) (b:=b) (by simpa using h);simp only[Ee,Bsq]
  constructor
  ·rintro ⟨e,f⟩;exact .cons e (c.1 f)
  intro k;cases k using Do.el with
  | cons k1 k2=>exact⟨k1,c.2 k2⟩
def Bd7{z:TI}{x y:Bf}:Km z x y=true<->Lu z x y:=by
 unfold Km L4
 constructor
 ·intro h;simp only[Bsq]at h;obtain⟨b,c⟩:=h
  split at b
  ·next e1 =>
   split at c
   ·next e2=>exact⟨(Pj e1).1 b,(Pj e2).1 c⟩
   cases c
  cases b
 intro h;rw[Th h.lo.len,Th h.st.len,(Pj h.lo.len).2 h.lo,(Pj h.st.len).2 h.st];rfl
def at_out{s:Bik}{u:Nat}(h:s.sp.length<=u):s.at u=Bqz:=by unfold Bik.at;rw[Vm,Bs3 h];rfl
def Ji (cs:List Rd.Cls)(ms:List Rd.Mth)(m:Rd.Mth):Jv :=
 ⟨Tr.tree cs,m.locals.toNat,m.stack,W9 m.code,m.code.length,Cd.places m.code,m.handlers,Ec cs ms m,fun p=>m.code.getD p 0,fun p=>Cd.atI m.code ((p:Int)+1),Er m⟩
def Xo(c:TI):∀(k e:Nat),c.length<=e+k->∀q∈Cd.starts c k e,q+Cd.wd (c.getD q 0)<c.length->q+Cd.wd (c.getD q 0)∈Cd.starts c k e
 | 0,e,_,q,b,_=>by simp[Cd.starts]at b
 | k+1,e,hk,q,b,hl=>by
  unfold Cd.starts at b ⊢;by_cases f:e<c.length
  ·rw[Th f]at b ⊢;have g:=Cd.wd_bd (c.getD e 0);rcases List.mem_cons.1 b with rfl|b
   ·refine Bsh _ ?_;obtain⟨j,rfl⟩:∃j,k=j+1:=⟨k-1,Ck⟩;unfold Cd.starts;rw[Th hl];exact Bsd ..
   exact Bsh _ (Xo c k _ Ck q b hl)
  rw[Pk f]at b;simp at b
def Xs{z:TI}{u:Nat}(b:u∈Cd.places z)(e:u+Cd.wd (z.getD u 0)<z.length):u+Cd.wd (z.getD u 0)∈Cd.places z:=Xo z z.length 0 Ck u b e
def T7{z:TI}{u:Nat}(b:u∈Cd.places z):u<z.length:=by
 have e:Cd.begB z (u:Int)=true:=by unfold Cd.begB;rw[Bu9];exact⟨u,b,Hd⟩
 have:=Mr e;omega
def Uj{z:TI}(h:0<z.length):0∈Cd.places z:=by
 unfold Cd.places;obtain⟨j,b⟩:∃j,z.length=j+1:=⟨z.length-1,Ck⟩;rw[b];unfold Cd.starts;rw[Th h];exact Bsd ..
def Bjc{m:List Rd.Cls}{i:List Rd.Mth}(k:Kn m i){K:Rd.Mth}(j:K∈i){u:Nat}(q:u∈Cd.places K.code){x y z:Bf}(s:Io (Tr.tree m) K x)(v:Io (Tr.tree m) K y)(h:Lu (Tr.tree m) x y)(c:Ec m i K u y=some z):∃b,Ec m i K u x=some b/\Lu (Tr.tree m) b z:=by
 have g:=k.mt K j;have A:=Sz g q;unfold Ec at c ⊢;rw[Az]at c ⊢;unfold Es at c ⊢;obtain⟨B,C,e⟩:=Option.bind_eq_some_iff.1 c;obtain⟨b,D,l⟩:=Bhe (want:=Rf.all (Tr.tree m) (Rf.given++m) (Cd.atI K.code ((u:Int)+1)).toNat) k.ok (Lh s) (Lh v) (Bao k j A) (fun t F=>(Ha (Ub k.fl _ _ t F)).1) h C;by_cases f:(B.stack.length:Int)<=K.stack
 ·rw[Th f]at e;cases e;refine⟨b,?_,l⟩;rw[D];show (if (b.stack.length:Int)<=K.stack then some b else none)=some b
  rw[Th (by rw[l.st.len];exact f)]
 rw[Pk f]at e;cases e
def Bdx{z:TI}{c:TI}{h:Rd.Hnd}(b:Cd.hndBad z c h=false):Cd.begB c h.target=true/\Tr.hasB z h.cl=true:=by
 unfold Cd.hndBad at b;simp only[Bty,Bool.not_eq_eq_eq_not,Bool.not_false]at b;exact⟨b.1.1.1.2,b.1.2⟩
def Bec{m:List Rd.Cls}{i:List Rd.Mth}(k:Kn m i){K:Rd.Mth}(e:K∈i)(s:0<K.code.length):(Ji m i K).Good:=by
 have g:=k.mt K e;refine⟨k.ok,Pt g,fun p b x y f h=>Pg k e b f h,fun p b x y z f t h v=>Bjc k e b f t h v,fun p b A=>?_,fun p b B=>?_,fun h C=>?_,Uj s,fun p b=>T7 b⟩
 ·have c:=g.arg p b;unfold Cd.argAt at c;rw[Xd]at c;show 0<=Cd.atI K.code ((p:Int)+1)/\Cd.atI K.code ((p:Int)+1)<(K.code.length:Int)/\(Cd.atI K.code ((p:Int)+1)).toNat∈Cd.places K.code;have q:Ei (K.code.getD p 0)=true:=A;generalize K.code.getD p 0=op at *;unfold Ei at q;have F:op=11\/op=12\/op=13\/op=14:=by simpa using q
  unfold Cd.argB at c;rw[Pk Ck,Th Ck]at c;have j:=Mr c;have l:=Yy c;exact⟨Ck,Ck,l⟩
 ·have G:(p:Int)+(Cd.wd (K.code.getD p 0):Int)<(K.code.length:Int):=B;have:=Xs b Ck;show ((p:Int)+(Cd.wd (K.code.getD p 0):Int)).toNat∈Cd.places K.code;rw[show ((p:Int)+(Cd.wd (K.code.getD p 0):Int)).toNat=p+Cd.wd (K.code.getD p 0) by omega];exact this
 obtain⟨j,l⟩:=Bdx (g.hnd h C);have I:=Mr j;have D:=Yy j;exact⟨Ck,(by show h.target<(K.code.length:Int);omega),D,Us (Kh.1 l)⟩
def Rd.Mon{α:Type}(f:Rd.St->α × Rd.St):Prop:=∀t,t.bad=true->(f t).2.bad=true
def Mk(s:TB):Rd.Mon (Rd.nx s):=fun t h=>by unfold Rd.nx;rw[Th h]
def Tb(s:TB)(a b:Int):Rd.Mon (Rd.cn s a b):=fun t h=>by
 unfold Rd.cn
 split
 ·rfl
 split
 ·rfl
 exact Mk s t h
def Bj0(s:TB):Rd.Mon (Rd.ty s):=fun t h=>Mk s _ (Mk s t h)
def Pw{α:Type}{f:Rd.St->α×Rd.St}(b:Rd.Mon f):∀(n:Nat) (t:Rd.St),t.bad=true->(Rd.rep f n t).2.bad=true
 | 0,_,h=>h
 | n+1,t,h=>b _ (Pw b n t h)
def A2(s:TB)(n:Nat):Rd.Mon (Rd.tys s n):=fun t h=>Pw (Bj0 s) n t h
def Bow(s:TB):Rd.Mon (Rd.hnd s):=fun t h=>Mk s _ (Mk s _ (Mk s _ (Mk s t h)))
def Bdj(s:TB):Rd.Mon (Rd.hnds s):=fun t h=>Pw (Bow s) _ _ (Tb s 0 4 t h)
def Bqk(s:TB)(L H:Int):Rd.Mon (Rd.mp s L H):=fun t h=>A2 s _ _ (Tb s 0 H _ (A2 s _ _ (Mk s t h)))
def Bj1(s:TB):Rd.Mon (Rd.codes s):=fun t h=>Pw (Mk s) _ _ (Tb s 1 120 t h)
def Bkz(s:TB)(t:Rd.St)(h:(Rd.codes s t).2.bad=false):0<(Rd.codes s t).1.length:=by
 unfold Rd.codes at h ⊢;simp only at h ⊢;rw[Rd.rep_len];by_cases b:(Rd.cn s 1 120 t).2.bad=true;·rw[Pw (Mk s) _ _ b]at h;cases h
 unfold Rd.cn at b ⊢
 split at b
 ·exact absurd rfl b
 split at b
 ·exact absurd rfl b
 next h1 h2=>rw[Pk h1,Pk h2];omega
def Bf2(s:TB)(L H:Int):Rd.Mon (Rd.mps s L H):=fun t h=>Pw (Bqk s L H) _ _ (Tb s 0 64 t h)
def A3(s:TB):Rd.Mon (Rd.mth s):=fun t h=>by
 unfold Rd.mth;exact Bf2 s _ _ _ (Bdj s _ (Bj1 s _ (Tb s 0 8 _ (Tb s 0 8 _ (Bj0 s _ (A2 s _ _ (Tb s 0 4 _ (Mk s _ (Mk s t h)))))))))
def Bdg(s:TB)(t:Rd.St)(h:(Rd.mth s t).2.bad=false):0<(Rd.mth s t).1.code.length:=by
 unfold Rd.mth at h ⊢;simp only at h ⊢;refine Bkz s _ ?_;generalize Rd.codes s _=c at h ⊢;cases b:c.2.bad with
 | false=>rfl
 | true=>rw[Bf2 s _ _ _ (Bdj s _ b)]at h;cases h
def Bcv(s:TB):∀(n:Nat) (t:Rd.St),(Rd.rep (Rd.mth s) n t).2.bad=false->∀m∈(Rd.rep (Rd.mth s) n t).1,0<m.code.length
 | 0,_,_,m,b=>by simp[Rd.rep]at b
 | n+1,t,h,m,b=>by
  unfold Rd.rep at h b;simp only at h b;rcases List.mem_append.1 b with b|b
  ·refine Bcv s n t ?_ m b;cases c:(Rd.rep (Rd.mth s) n t).2.bad with
   | false=>rfl
   | true=>rw[A3 s _ c]at h;cases h
  rw[List.mem_singleton.1 b];exact Bdg s _ h
def Bjl(s:TB)(h:(Rd.read s).2=0):∀m∈(Rd.read s).1.methods,0<m.code.length:=by
 unfold Rd.read at h ⊢
 split
 ·simp
 next h1 =>
 rw[Pk h1]at h
 split
 ·simp
 next h2 =>
 rw[Pk h2]at h;simp only[Rd.fil]at h2 ⊢;refine Bcv s _ _ ?_;generalize (Rd.rep (Rd.mth s) _ _).2=t at *;cases b:t.bad with
 | false=>rfl
 | true=>exact absurd (.inl b) h2
structure Lw(S G:Nat)(w w':World):Prop where
 os:w'.os=w.os
 tape:w'.tape=w.tape
 output:w'.output=w.output
 size:w.heap.size<=w'.heap.size
 block:∀k,k<w.heap.size->k≠S->k≠G->w'.heap[k]?=w.heap[k]?
 tys:∀(k:Nat) (cs:Array Value),w.heap[k]?=some (.cells cs 31 (0,0))->w'.heap[k]?=some (.cells cs 31 (0,0))
def By (n:Int):Prop:=0<=n/\n<=255
def TyB (t:Int × Int):Prop:=By t.1/\By t.2
structure Bil(c:Rd.Cls):Prop where
 ab:By c.above
 fl:c.fields.length<=4
 ty:∀t∈c.fields,TyB t
structure Bq2(h:Rd.Hnd):Prop where
 fr:By h.frm
 tl:By h.til
 tg:By h.target
 cl:By h.cl
structure MpB(lo hi:Int)(m:Rd.Mp):Prop where
 pl:By m.place
 lo:(m.locals.length:Int)=lo
 hi:(m.stack.length:Int)<=hi
 tl:∀t∈m.locals,TyB t
 ts:∀t∈m.stack,TyB t
structure Bif(m:Rd.Mth):Prop where
 cl:By m.cl
 nm:By m.name
 pl:m.params.length<=4
 ps:∀t∈m.params,TyB t
 rs:TyB m.result
 lo:0<=m.locals/\m.locals<=8
 st:0<=m.stack/\m.stack<=8
 c1:1<=m.code.length
 c2:m.code.length<=120
 cb:∀x∈m.code,By x
 h4:m.handlers.length<=4
 hb:∀h∈m.handlers,Bq2 h
 m6:m.maps.length<=64
 mb:∀q∈m.maps,MpB m.locals m.stack q
structure Bn3(f:Rd.Fil):Prop where
 c6:f.classes.length<=6
 cb:∀c∈f.classes,Bil c
 m1:1<=f.methods.length
 m6:f.methods.length<=6
 mb:∀m∈f.methods,Bif m
def Xc{α:Type}{f:Rd.St->α×Rd.St}{P:α->Prop}(h:∀t,P (f t).1):∀(n:Nat) (t:Rd.St),∀x∈(Rd.rep f n t).1,P x
 | 0,_,x,b=>by simp[Rd.rep]at b
 | n+1,t,x,b=>by
  unfold Rd.rep at b;simp only at b;rcases List.mem_append.1 b with b|b
  ·exact Xc h n t x b
  rw[List.mem_singleton.1 b];exact h _
def Bpx(s:TB)(t:Rd.St):TyB (Rd.ty s t).1:=⟨Rd.nx_bd s _,Rd.nx_bd s _⟩
def Bce(s:TB)(n:Nat)(t:Rd.St):∀x∈(Rd.tys s n t).1,TyB x:=Xc (Bpx s) n t
def Brd(s:TB)(t:Rd.St):Bil (Rd.cls s t).1:=by
 refine⟨Rd.nx_bd s _,?_,Bce s _ _⟩;simp only[Rd.cls,Rd.tys,Rd.rep_len];have:=Rd.cn_bd s 0 4 (Rd.nx s t).2 Ck;omega
def Brc(s:TB)(t:Rd.St):Bq2 (Rd.hnd s t).1:=⟨Rd.nx_bd s _,Rd.nx_bd s _,Rd.nx_bd s _,Rd.nx_bd s _⟩
def Brh(s:TB)(L H:Int)(c:0<=L)(b:0<=H)(t:Rd.St):MpB L H (Rd.mp s L H t).1:=by
 refine⟨Rd.nx_bd s _,?_,?_,Bce s _ _,Bce s _ _⟩
 ·simp only[Rd.mp,Rd.tys,Rd.rep_len];omega
 simp only[Rd.mp,Rd.tys,Rd.rep_len];have:=Rd.cn_bd s 0 H (Rd.rep (Rd.ty s) L.toNat (Rd.nx s t).2).2 b;omega
def Bq8(s:TB)(t:Rd.St)(h:(Rd.mth s t).2.bad=false):Bif (Rd.mth s t).1:=by
 have c:=Bdg s t h;unfold Rd.mth at c ⊢;simp only at c ⊢;refine⟨Rd.nx_bd s _,Rd.nx_bd s _,?_,Bce s _ _,Bpx s _,Rd.cn_bd s _ _ _ Ck,Rd.cn_bd s _ _ _ Ck,c,?_,Xc (Rd.nx_bd s) _ _,?_,Xc (Brc s) _ _,?_,Xc (Brh s _ _ (Rd.cn_bd s _ _ _ Ck).1 (Rd.cn_bd s _ _ _ Ck).1) _ _⟩
 ·simp only[Rd.tys,Rd.rep_len];have:=Rd.cn_bd s 0 4 (Rd.nx s (Rd.nx s t).2).2 Ck;omega
 ·simp only[Rd.codes,Rd.rep_len];have b:=Rd.cn_bd s 1 120;generalize (Rd.cn s 0 8 _).2=u;have:=b u Ck;omega
 ·simp only[Rd.hnds,Rd.rep_len];have b:=Rd.cn_bd s 0 4;generalize (Rd.codes s _).2=u;have:=b u Ck;omega
 simp only[Rd.mps,Rd.rep_len];have b:=Rd.cn_bd s 0 64;generalize (Rd.hnds s _).2=u;have:=b u Ck;omega
def Bn5(s:TB):∀(n:Nat) (t:Rd.St),(Rd.rep (Rd.mth s) n t).2.bad=false->∀m∈(Rd.rep (Rd.mth s) n t).1,Bif m
 | 0,_,_,m,b=>by simp[Rd.rep]at b
 | n+1,t,h,m,b=>by
  unfold Rd.rep at h b;simp only at h b;rcases List.mem_append.1 b with b|b
  ·refine Bn5 s n t ?_ m b;cases c:(Rd.rep (Rd.mth s) n t).2.bad with
   | false=>rfl
   | true=>rw[A3 s _ c]at h;cases h
  rw[List.mem_singleton.1 b];exact Bq8 s _ h
def Bqt(s:TB)(a b:Int)(t:Rd.St)(h:(Rd.cn s a b t).2.bad=false):a<=(Rd.cn s a b t).1:=by
 unfold Rd.cn at h ⊢
 split at h
 ·cases h
 split at h
 ·cases h
 next h1 h2=>rw[Pk h1,Pk h2];omega
def Bp3(s:TB)(h:(Rd.read s).2=0):Bn3 (Rd.read s).1:=by
 unfold Rd.read at h ⊢;by_cases g:15000<s.length;·rw[Th g]at h;simp at h
 rw[Pk g]at h ⊢;by_cases e:(Rd.fil s ⟨0,false⟩).2.bad=true\/(Rd.fil s ⟨0,false⟩).2.pos≠s.length;·rw[Th e]at h;simp at h
 rw[Pk e];have b:(Rd.fil s ⟨0,false⟩).2.bad=false:=by
  cases b:(Rd.fil s ⟨0,false⟩).2.bad with
  | false=>rfl
  | true=>exact absurd (.inl b) e
 unfold Rd.fil at b ⊢;simp only at b ⊢;generalize Rd.ex s 77 (Rd.ex s 83 ⟨0,false⟩)=u at *;have q:=Rd.cn_bd s 0 6 u Ck;generalize Rd.cn s 0 6 u=n at *;have i:∀c∈(Rd.rep (Rd.cls s) n.1.toNat n.2).1,Bil c:=Xc (Brd s) _ _;have t:(Rd.rep (Rd.cls s) n.1.toNat n.2).1.length=n.1.toNat:=Rd.rep_len _ _ _;generalize Rd.rep (Rd.cls s) n.1.toNat n.2=f at *;have v:=Rd.cn_bd s 1 6 f.2 Ck;have j:=Bqt s 1 6 f.2;generalize Rd.cn s 1 6 f.2=m at *;have l:m.2.bad=false:=by
  cases p:m.2.bad with
  | false=>rfl
  | true=>rw[Pw (A3 s) _ _ p]at b;cases b
 have z:=j l;refine⟨Mc,i,?_,?_,Bn5 s _ _ b⟩
 ·simp only[Rd.rep_len];omega
 simp only[Rd.rep_len];omega
def Wj(c:TI):∀(k b:Nat),c.length<=b+k->∀(d r:List Nat) (p:Nat),Cd.starts c k b=d++p::r->p+Cd.wd (c.getD p 0)<c.length->∃g,r=(p+Cd.wd (c.getD p 0))::g
 | 0,b,_,d,r,p,h,_=>by simp[Cd.starts]at h
 | k+1,b,hk,d,r,p,h,hl=>by
  unfold Cd.starts at h;by_cases f:b<c.length
  ·rw[Th f]at h;have i:=Cd.wd_bd (c.getD b 0);cases d with
   | nil =>
    simp only[Btz,List.cons.injEq]at h;obtain⟨rfl,rfl⟩:=h;obtain⟨j,rfl⟩:∃j,k=j+1:=⟨k-1,Ck⟩;unfold Cd.starts;rw[Th hl];exact⟨_,rfl⟩
   | cons e d =>
    simp only[Bs5,List.cons.injEq]at h;exact Wj c k _ Ck d r p h.2 hl
  rw[Pk f]at h;simp at h
def Bc3{z:TI}{d r:List Nat}{u:Nat}(h:Cd.places z=d++u::r)(b:u+Cd.wd (z.getD u 0)<z.length):∃e,r=(u+Cd.wd (z.getD u 0))::e:=Wj z z.length 0 Ck d r u h b
def Sc{T:TI}{mp:Int->Option Bf}{p:Int}{lo:TP}:∀{hs:List Rd.Hnd},Fb T mp p lo hs=0<->∀h∈hs,Fo h p=true->∃z,mp h.target=some z/\Cj T ⟨lo,[(3,h.cl)]⟩ z=true
 | []=>by simp[Fb]
 | h::r=>by
  have i:=Sc (T:=T) (mp:=mp) (p:=p) (lo:=lo) (hs:=r);unfold Fb;have j:Fo h p=true<->h.frm<=p/\p<h.til:=by unfold Fo;simp
  by_cases m:p<h.frm
  ·rw[Th m,i]
   constructor
   ·intro g x b c;rcases List.mem_cons.1 b with rfl|b
    ·have:=(j.1 c).1;omega
    exact g x b c
   exact fun g x b=>g x (by simp[b])
  rw[Pk m];by_cases q:h.til<=p
  ·rw[Th q,i]
   constructor
   ·intro g x b c;rcases List.mem_cons.1 b with rfl|b
    ·have:=(j.1 c).2;omega
    exact g x b c
   exact fun g x b=>g x (by simp[b])
  rw[Pk q];have c:Fo h p=true:=j.2 ⟨Ck,Ck⟩;cases l:mp h.target with
  | none =>
   simp only[Bvr,Bv7]
   constructor
   ·intro g;omega
   intro g;obtain⟨z,e,_⟩:=g h Hd c;rw[l]at e;cases e
  | some z =>
   rw[Pk (show ¬(some z).isSome=false by simp),show Cu (some z)=z from rfl];by_cases f:Cj T ⟨lo,[(3,h.cl)]⟩ z=true
   ·rw[Pk (show ¬Cj T ⟨lo,[(3,h.cl)]⟩ z=false by rw[f];simp),i]
    constructor
    ·intro g x b s;rcases List.mem_cons.1 b with rfl|b
     ·exact⟨z,l,f⟩
     exact g x b s
    exact fun g x b=>g x (by simp[b])
   rw[Th (show Cj T ⟨lo,[(3,h.cl)]⟩ z=false by simpa using f)]
   constructor
   ·intro g;omega
   intro g;obtain⟨v,e,t⟩:=g h Hd c;rw[l]at e;cases e;exact absurd t f
def Bj9{z:TI}{mp:Int->Option Bf}{H:Int}{R:Option Bf}{op n p t:Int}:J1 z mp H R op n p t=0 <-> H=0/\∃y,R=some y/\(Ei op=true->∃c,mp n=some c/\Cj z y c=true)/\(Dl op=true->p<t/\∀c,mp p=some c->Cj z y c=true):=by
 unfold J1;by_cases i:H=0
 ·rw[Pk (fun g=>g i)];cases R with
  | none=>simp
  | some y =>
   rw[Pk (show ¬(some y).isSome=false by simp),show Cu (some y)=y from rfl]
   constructor
   ·intro h;refine⟨i,y,rfl,?_,?_⟩
    ·intro j;by_cases m:(mp n).isSome=false;·rw[Th ⟨j,m⟩]at h;omega
     rw[Pk (fun g=>m g.2)]at h;cases f:mp n with
     | none=>rw[f]at m;simp at m
     | some c =>
      rw[f,show Cu (some c)=c from rfl]at h;by_cases l:Cj z y c=false;·rw[Th ⟨j,l⟩]at h;omega
      exact⟨c,rfl,by simpa using l⟩
    intro q
    split at h
    ·omega
    split at h
    ·omega
    rw[Pk (by rw[q];simp)]at h
    split at h
    ·omega
    next v =>
    refine⟨Ck,fun c f=>?_⟩;rw[f,show Cu (some c)=c from rfl]at h;by_cases l:Cj z y c=false;·rw[Th ⟨rfl,l⟩]at h;omega
    simpa using l
   rintro ⟨-,B,e,j,q⟩;cases e;rw[Pk (by
    rintro ⟨a,b⟩;obtain⟨c,f,_⟩:=j a;rw[f]at b;simp at b),Pk (by
    rintro ⟨a,b⟩;obtain⟨c,f,A⟩:=j a;rw[f,show Cu (some c)=c from rfl,A]at b;cases b)]
   by_cases s:Dl op=true
   ·obtain⟨v,f⟩:=q s;rw[Pk (by rw[s];simp),Pk Ck,Pk (by
     rintro ⟨a,b⟩;obtain⟨c,e⟩:=Option.isSome_iff_exists.1 a;rw[e,show Cu (some c)=c from rfl,f c e]at b;cases b)]
   rw[Th (by simpa using s)]
 rw[Th i]
 constructor
 ·intro h;exact absurd h i
 intro h;exact absurd h.1 i
def Td{ah:Nat->Option Bf}{lk:Nat->Bf->Int}:∀{l:List Nat},(Gd ah lk l).1=0<->∀p∈l,∀x,ah p=some x->lk p x=0
 | []=>by simp[Gd]
 | p::r=>by
  have i:=Td (ah:=ah) (lk:=lk) (l:=r);unfold Gd;cases c:ah p with
  | none =>
   simp only;rw[i]
   constructor
   ·intro g q b x e;rcases List.mem_cons.1 b with rfl|b
    ·rw[c]at e;cases e
    exact g q b x e
   exact fun g q b=>g q (by simp[b])
  | some x =>
   simp only;by_cases h:lk p x=0
   ·rw[Pk (fun g=>g h),i]
    constructor
    ·intro g q b y f;rcases List.mem_cons.1 b with rfl|b
     ·rw[c]at f;cases f;exact h
     exact g q b y f
    exact fun g q b=>g q (by simp[b])
   rw[Th h]
   constructor
   ·intro g;exact absurd g h
   intro g;exact absurd (g p Hd x c) h
def Rv{m:List Rd.Cls}{i:List Rd.Mth}{K:Rd.Mth}{d r:List Nat}{u:Nat}(h:Cd.places K.code=d++u::r):Gs m i K u=(D9 K (u:Int)).or (d.foldl (fun o p=>J0 (fun p=>D9 K (p:Int)) (Ec m i K) (fun p=>Dl (K.code.getD p 0)) p o) (some (Er K))):=by
 have b:=Baw K.code;unfold Gs;rw[h]at b ⊢;exact W4 _ _ _ u r d _ (fun p c=>(List.pairwise_append.1 b).2.2 p c u Hd)
def Be8{m:List Rd.Cls}{i:List Rd.Mth}{K:Rd.Mth}(b:0<K.code.length):Gs m i K 0=(D9 K 0).or (some (Er K)):=by
 obtain⟨r,c⟩:∃r,Cd.places K.code=[]++0::r:=by
  unfold Cd.places;cases e:K.code.length with
  | zero=>omega
  | succ n =>
   unfold Cd.starts;rw[Th b];exact⟨_,rfl⟩
 rw[Rv c];rfl
def Be9{m:List Rd.Cls}{i:List Rd.Mth}{K:Rd.Mth}{u:Nat}(b:u∈Cd.places K.code)(c:u+Cd.wd (K.code.getD u 0)<K.code.length):Gs m i K (u+Cd.wd (K.code.getD u 0))=(D9 K ((u+Cd.wd (K.code.getD u 0):Nat):Int)).or ((Gs m i K u).bind fun x=>(Ec m i K u x).bind fun z=>if Dl (K.code.getD u 0)=true then some z else none):=by
 obtain⟨d,r,h⟩:=Bvv b;obtain⟨e,rfl⟩:=Bc3 h c;rw[Rv (d:=d++[u]) (r:=e) (by rw[h];simp),Rv h,List.foldl_append];rfl
def Tu (cs:List Rd.Cls)(ms:List Rd.Mth)(m:Rd.Mth)(q:Nat):Option Bf:=if q∈Cd.places m.code then Gs cs ms m q else none
def Rx{m:List Rd.Cls}{i:List Rd.Mth}{K:Rd.Mth}{u:Nat}(h:u∈Cd.places K.code):Tu m i K u=Gs m i K u:=Th h
def Si{m:List Rd.Cls}{i:List Rd.Mth}{K:Rd.Mth}{u:Nat}(h:u∈Cd.places K.code){z:Bf}(b:D9 K (u:Int)=some z):Gs m i K u=some z:=by
 obtain⟨d,r,h⟩:=Bvv h;rw[Rv h,b];rfl
def Bmy{m:List Rd.Cls}{i:List Rd.Mth}(k:Kn m i){K:Rd.Mth}(t:K∈i){q:Nat}(C:q∈Cd.places K.code){x:Bf}(h:Gs m i K q=some x):Io (Tr.tree m) K x:=by
 have g:=k.mt K t;obtain⟨d,r,A⟩:=Bvv C;rw[Rv A]at h;have D:∀(d:List Nat) (o:Option Bf),(∀p∈d,p∈Cd.places K.code)->(∀y,o=some y->Io (Tr.tree m) K y)->∀y,d.foldl (fun o p=>J0 (fun p=>D9 K (p:Int)) (Ec m i K) (fun p=>Dl (K.code.getD p 0)) p o) o=some y->Io (Tr.tree m) K y:=by
  intro d
  induction d with
  | nil=>intro o _ j y f;exact j y f
  | cons p d ih =>
   intro o B j y f;refine ih _ (fun p l=>B p (by simp[l])) (fun z b=>?_) y f;unfold J0 at b;simp only at b;cases e:(D9 K (p:Int)).or o with
   | none=>rw[e]at b;cases b
   | some u =>
    rw[e]at b;simp only[Bt7]at b;have F:Io (Tr.tree m) K u:=by
     cases c:D9 K (p:Int) with
     | none=>rw[c]at e;exact j u e
     | some v=>rw[c]at e;cases e;exact Rp g c
    cases s:Ec m i K p u with
    | none=>rw[s]at b;cases b
    | some v =>
     rw[s]at b;simp only[Bt7]at b
     split at b
     ·cases b;exact Pg k t (B p Hd) F s
     cases b
 cases c:D9 K (q:Int) with
 | none =>
  rw[c]at h;exact D d _ (fun p l=>by rw[A];simp[l]) (fun y f=>by cases f;exact Pt g) x h
 | some v=>rw[c]at h;cases h;exact Rp g c
def Bee{m:List Rd.Cls}{i:List Rd.Mth}{K:Rd.Mth}:(Hk m i K).1=0<->(∀z,D9 K 0=some z->Cj (Tr.tree m) (Er K) z=true)/\∀p∈Cd.places K.code,∀x,Gs m i K p=some x->Nt m i K p x=0:=by
 unfold Hk La;cases c:D9 K 0 with
 | none =>
  rw[Pk Hd,Td];simp
 | some z =>
  rw[show Cu (some z)=z from rfl];by_cases b:Cj (Tr.tree m) (Er K) z=true
  ·rw[Pk (fun g=>by rw[b]at g;cases g.2),Td]
   constructor
   ·intro h;exact⟨fun f e=>by cases e;exact b,h⟩
   intro h;exact h.2
  rw[Th ⟨rfl,by simpa using b⟩]
  constructor
  ·intro h;simp at h
  intro h;exact absurd (h.1 z rfl) b
def Bfh{m:List Rd.Cls}{i:List Rd.Mth}(k:Kn m i){K:Rd.Mth}(N:K∈i)(O:0<K.code.length)(h:(Hk m i K).1=0):Blh (Ji m i K) (Tu m i K)/\∀p∈Cd.places K.code,Tu m i K p≠none->∀q,Bq1 (Ji m i K) p q->∃z,D9 K (q:Int)=some z/\Tu m i K q=some z:=by
 have g:=k.mt K N;have I:=Bec k N O;have hT:Tr.Ok (Tr.tree m):=k.ok;obtain⟨h0,h1⟩:=Bee.1 h;have Q:∀{x y:Bf},Io (Tr.tree m) K x->Io (Tr.tree m) K y->Cj (Tr.tree m) x y=true->Lu (Tr.tree m) x y:=fun c F V=>Bd7.1 (by rw[<- Tf hT (Lh c) (Lh F)];exact V);have lk:∀p∈Cd.places K.code,∀x,Gs m i K p=some x->_:=fun p l x c=>Bj9.1 (show J1 _ _ _ _ _ _ _ _=0 from h1 p l x c);have a5:∀p x,Tu m i K p=some x->Io (Tr.tree m) K x:=by
  intro p x c;unfold Tu at c;by_cases l:p∈Cd.places K.code;·rw[Th l]at c;exact Bmy k N l c
  rw[Pk l]at c;cases c
 have hI:∀{f:Rd.Hnd}{x:Bf}{z:Bf},f∈K.handlers->Io (Tr.tree m) K x->Io (Tr.tree m) K z->Cj (Tr.tree m) ⟨x.locals,[(3,f.cl)]⟩ z=true->Lu (Tr.tree m) (Sa x f) z:=by
  intro f x z v c A V;refine Bd7.1 ?_;rw[<- Tf hT ?_ (Lh A)]
  ·exact V
  refine⟨fun t Y=>(c.tl t Y).1,fun t Y=>?_⟩;have:t=(3,f.cl):=by simpa[Sa] using Y
  rw[this];exact(I.hnd f v).2.2.2
 refine⟨⟨a5,?_,?_⟩,?_⟩
 ·have A:=Uj O;rw[Rx A,Be8 O];cases e:D9 K 0 with
  | none=>exact⟨_,rfl,.refl _ _⟩
  | some z=>exact⟨z,rfl,Q (Pt g) (Rp g e) (h0 z e)⟩
 ·intro p l x c;have J:p∈Cd.places K.code:=l;have hP:=a5 p x c;rw[Rx J]at c;obtain⟨Z,y,G,a3,a4⟩:=lk p J x c;have F:=Pg k N J hP G;refine⟨⟨y,G⟩,?_⟩;intro q u b hg;cases hg using I8.el with
  | hnd f v a0 =>
   obtain⟨z,j,B⟩:=Sc.1 Z f v a0;have C:=I.hnd f v;have s:((f.target.toNat:Nat):Int)=f.target:=Ck;have A:=Rp g j;have hl:=hI v hP A B;refine⟨C.1,C.2.1,?_,⟨z,?_,hl⟩,fun _=>trivial⟩
   ·have:=hl.st.len;have:=A.hi;show ((Sa x f).stack.length:Int)<=K.stack;omega
   rw[Rx C.2.2.1];exact Si C.2.2.1 (by rw[s];exact j)
  | jmp u hu L =>
   have:u=y:=by have:=hu.symm.trans G;cases this;rfl
   subst this;obtain⟨z,j,B⟩:=a3 L;have D:=I.tgt p l L;have s:((((Ji m i K).ar p).toNat:Nat):Int)=(Ji m i K).ar p:=Ck;have A:=Rp g j;refine⟨D.1,D.2.1,F.hi,⟨z,?_,Q F A B⟩,fun _=>trivial⟩;rw[Rx D.2.2];exact Si D.2.2 (by rw[s];exact j)
  | nxt u hu hgo =>
   have:u=y:=by have:=hu.symm.trans G;cases this;rfl
   subst this;obtain⟨j,B⟩:=a4 hgo;have hn:p+Cd.wd (K.code.getD p 0)<K.code.length:=Ck;have s:((Ji m i K).nx p).toNat=p+Cd.wd (K.code.getD p 0):=by
    show ((p:Int)+(Cd.wd (K.code.getD p 0):Int)).toNat=_;omega
   have a7:=Xs J hn;have a6:(Ji m i K).nx p=((p+Cd.wd (K.code.getD p 0):Nat):Int):=by
    show (p:Int)+(Cd.wd (K.code.getD p 0):Int)=_;omega
   have a8:Dl (K.code.getD p 0)=true:=hgo;refine⟨by rw[a6];omega,by rw[a6];exact j,F.hi,?_,fun h=>(by cases h)⟩;rw[s,Rx a7,Be9 J hn,c];simp only[Bt7];have a9:Ec m i K p x=some u:=G;rw[a9,Bt7,Th a8];cases e:D9 K ((p+Cd.wd (K.code.getD p 0):Nat):Int) with
   | none=>exact⟨u,rfl,.refl _ _⟩
   | some z=>exact⟨z,rfl,Q F (Rp g e) (B z e)⟩
 intro p l b0 q ha;cases c:Tu m i K p with
 | none=>exact absurd c b0
 | some x =>
  rw[Rx l]at c;obtain⟨Z,y,G,a3,a4⟩:=lk p l x c;rcases ha with ⟨f,v,a0,rfl⟩|⟨L,rfl⟩
  ·obtain⟨z,j,B⟩:=Sc.1 Z f v a0;have C:=I.hnd f v;have s:((f.target.toNat:Nat):Int)=f.target:=Ck;refine⟨z,by rw[s];exact j,?_⟩;rw[Rx C.2.2.1];exact Si C.2.2.1 (by rw[s];exact j)
  obtain⟨z,j,B⟩:=a3 L;have D:=I.tgt p l L;have s:((((Ji m i K).ar p).toNat:Nat):Int)=(Ji m i K).ar p:=Ck;refine⟨z,by rw[s];exact j,?_⟩;rw[Rx D.2.2];exact Si D.2.2 (by rw[s];exact j)
structure Bi where
 meth:Int
 pos:Nat
 next:Nat
 lo:List Int
 st:List Int
 h:Nat
def Ig:List Int:=[0,0,0,0,0,0,0,0]
def D8 (v:Int)(c:Bi):Bi:=if 8<=c.h then c else ⟨c.meth,c.pos,c.next,c.lo,c.st.set c.h v,c.h+1⟩
def Bv (c:Bi):Int × Bi:=if c.h=0 then (0,c) else (c.st.getD (c.h-1) 0,⟨c.meth,c.pos,c.next,c.lo,c.st,c.h-1⟩)
def Dt:Nat->Bi->List Int × Bi
 | 0,c=>([],c)
 | k+1,c=>((Dt k (Bv c).2).1++[(Bv c).1],(Dt k (Bv c).2).2)
def Tt (n:Int)(c:Bi):Int:=if n<0 then 0 else if 8<=n then 0 else c.lo.getD n.toNat 0
def Ep (n v:Int)(c:Bi):Bi:=if n<0 then c else if 8<=n then c else ⟨c.meth,c.pos,c.next,c.lo.set n.toNat v,c.st,c.h⟩
def N4 (o:Int)(t:Nat)(c:Bi):Bi:=⟨c.meth,c.pos,t,c.lo,c.st.set 0 o,1⟩
def Jy:Nat->TI->Bi->Bi
 | _,[],c=>c
 | i,v::r,c=>Jy (i+1) r (Ep (i:Int) v c)
def Cn (m:Int)(vs:TI):Bi:=Jy 0 vs ⟨m,0,0,Ig,Ig,0⟩
def L5 (b:Int):Int:=if 127<b then b-256 else b
def Fy (v:Int):Int:=(v+2147483648) % 4294967296-2147483648
def Ia (op x y:Int):Option Int :=
 if op=7 then some (Fy (Fy x+Fy y)) else if op=8 then some (Fy (Fy x-Fy y)) else if op=9 then some (Fy (Fy x*Fy y))
 else if Fy y=0 then none else some (Fy ((Fy x).tdiv (Fy y)))
def Jk (op n:Int)(c:Bi):Bi :=
 if op=0 then D8 (L5 n) c
 else if op=1 then D8 0 c
 else if op=2 then D8 (Tt n c) c
 else if op=3 then Ep n (Bv c).1 (Bv c).2
 else if op=4 then (Bv c).2
 else if op=5 then D8 (Bv c).1 (D8 (Bv c).1 (Bv c).2)
 else if op=6 then D8 (Bv (Bv c).2).1 (D8 (Bv c).1 (Bv (Bv c).2).2)
 else c
def Ki (t:Nat)(c:Bi):Bi:=⟨c.meth,c.pos,t,c.lo,c.st,c.h⟩
def Gq (op n:Int)(c:Bi):Bi :=
 if op=12 then (if (Bv c).1=0 then Ki n.toNat (Bv c).2 else (Bv c).2)
 else if op=13 then (if (Bv (Bv c).2).1<(Bv c).1 then Ki n.toNat (Bv (Bv c).2).2 else (Bv (Bv c).2).2)
 else if op=14 then (if (Bv c).1=0 then Ki n.toNat (Bv c).2 else (Bv c).2)
 else Ki n.toNat c
structure Dn where
 T:List Int
 FL:List (List (Int × Int))
 ms:List Rd.Mth
 ins:List Int
 room:Int
 depth:Int
structure Bo where
 read:Nat
 objs:List (Int × List Int)
 now:Bi
 wait:List Bi
 ended:Bool
 out:List Int
 status:Int
 value:Int
 steps:Nat
def Bo.withNow(S:Bo)(c:Bi):Bo:=⟨S.read,S.objs,c,S.wait,S.ended,S.out,S.status,S.value,S.steps⟩
def Bo.withObjs(S:Bo)(l:List (Int × List Int)):Bo:=⟨S.read,l,S.now,S.wait,S.ended,S.out,S.status,S.value,S.steps⟩
def Bo.opened(S:Bo)(c:Bi):Bo:=⟨S.read,S.objs,c,S.wait++[S.now],S.ended,S.out,S.status,S.value,S.steps⟩
def Bo.fin(S:Bo)(st v:Int):Bo:=⟨S.read,S.objs,S.now,S.wait,true,S.out,st,v,S.steps⟩
def Bo.push(S:Bo)(v:Int):Bo:=S.withNow (D8 v S.now)
def Bo.popped(S:Bo):Bo:=S.withNow (Bv S.now).2
def Bo.top(S:Bo):Int:=(Bv S.now).1
def Ef:Rd.Mth:=⟨0,0,[],(0,0),0,0,[],[],[]⟩
def Dn.meth(E:Dn)(n:Int):Rd.Mth:=if n<0 then Ef else if (E.ms.length:Int)<=n then Ef else E.ms.getD n.toNat Ef
def Lr (r:Int)(l:List (Int × List Int)):Bool:=decide (1<=r)&&decide (r<=(l.length:Int))
def K6 (r:Int)(l:List (Int × List Int)):Int × List Int:=l.getD (r-1).toNat (0,[])
def Ho (r:Int)(l:List (Int × List Int)):Int:=if Lr r l=true then (K6 r l).1 else 0
def Iq (r s:Int)(l:List (Int × List Int)):Bool:=Lr r l&&(decide (0<=s)&&decide (s<((K6 r l).2.length:Int)))
def Ss (r s:Int)(l:List (Int × List Int)):Int:=if Iq r s l=true then (K6 r l).2.getD s.toNat 0 else 0
def Ra (r s v:Int)(l:List (Int × List Int)):List (Int × List Int):=if Iq r s l=true then l.set (r-1).toNat ((K6 r l).1,(K6 r l).2.set s.toNat v) else l
def P9 (r:Int)(fs:TI)(l:List (Int × List Int)):List (Int × List Int):=if Lr r l=true then l.set (r-1).toNat ((K6 r l).1,fs) else l
def Il (T:TI)(FL:List (List (Int × Int)))(n:Int):Int :=
 if (Dw n FL 0 0).1 = -1 then -1 else ((Dk T FL (Dw n FL 0 0).1).length:Int)-((Ln FL (Dw n FL 0 0).1).length:Int)+(Dw n FL 0 0).2
def Hi (T:TI)(cl:Int)(pos:Nat):List Rd.Hnd->Option Nat
 | []=>none
 | h::r=>if (Fo h (pos:Int)&&Tr.within T cl h.cl)=true then some h.target.toNat else Hi T cl pos r
def Dn.target(E:Dn)(cl:Int)(c:Bi):Option Nat:=Hi E.T cl c.pos (E.meth c.meth).handlers
def Jd (E:Dn)(o cl:Int):Nat->Bo->Bo
 | 0,S=>S
 | k+1,S=>match E.target cl S.now with
  | some t=>S.withNow (N4 o t S.now)
  | none=>match S.wait.getLast? with
   | none=>S.fin 2 cl
   | some c=>Jd E o cl k ⟨S.read,S.objs,c,S.wait.dropLast,S.ended,S.out,S.status,S.value,S.steps⟩
def Lf (E:Dn)(o:Int)(S:Bo):Bo:=Jd E o (Ho o S.objs) (S.wait.length+1) S
def Fd (E:Dn)(cl:Int)(S:Bo):Bo:=Lf E (cl-2+1) S
def Hj (E:Dn)(m:Int)(vs:TI)(S:Bo):Bo :=
 if E.depth<=(S.wait.length:Int)+1 then Fd E 6 S else S.opened (Cn m vs)
def Fs (k:Nat)(S:Bo):Bo:=S.withNow (Dt k S.now).2
def Ih (k:Nat)(S:Bo):List Int:=(Dt k S.now).1
def Su (E:Dn)(n:Int)(S:Bo):Bo:=Hj E n (Ih (E.meth n).params.length S) (Fs (E.meth n).params.length S)
def Gp (T:TI)(cl name:Int):List Rd.Mth->Int->Int->Int->Int
 | [],_,found,_=>found
 | m::r,i,found,high=>if (m.name==name&&(decide (high<=m.cl)&&Tr.within T cl m.cl))=true then Gp T cl name r (i+1) i m.cl else Gp T cl name r (i+1) found high
def Dn.nearest(E:Dn)(cl name:Int):Int:=Gp E.T cl name E.ms 0 0 0
def Nq (E:Dn)(name o:Int)(vs:TI)(S:Bo):Bo :=
 if o=0 then Fd E 3 S else Hj E (E.nearest (Ho o S.objs) name) (o::vs) S
def Oy (E:Dn)(n:Int)(S:Bo):Bo :=
 Nq E (E.meth n).name (Fs (E.meth n).params.length S).top (Ih (E.meth n).params.length S) (Fs (E.meth n).params.length S).popped
def Kf (res:Int × Int)(v:Int)(S:Bo):Bo:=match S.wait.getLast? with
 | none=>S.fin 0 (if res.1=1 then v else 0)
 | some c=>⟨S.read,S.objs,(if res.1=0 then c else D8 v c),S.wait.dropLast,S.ended,S.out,S.status,S.value,S.steps⟩
def Jq (E:Dn)(S:Bo):Bo :=
 if (E.meth S.now.meth).result.1=0 then Kf (E.meth S.now.meth).result 0 S else Kf (E.meth S.now.meth).result S.top S.popped
def Jc (E:Dn)(S:Bo):Bo:=if S.top=0 then Fd E 3 S.popped else Lf E S.top S.popped
def Po (E:Dn)(S:Bo):Bo :=
 if S.read<E.ins.length then (⟨S.read+1,S.objs,S.now,S.wait,S.ended,S.out,S.status,S.value,S.steps⟩:Bo).push (E.ins.getD S.read 0) else S.push 0
def Vd (S:Bo):Bo:=⟨S.read,S.objs,(Bv S.now).2,S.wait,S.ended,S.out++[S.top],S.status,S.value,S.steps⟩
def L6 (E:Dn)(op:Int)(S:Bo):Bo:=match Ia op S.popped.top S.top with
 | none=>Fd E 2 S.popped.popped
 | some z=>S.popped.popped.push z
def L7 (E:Dn)(cl:Int)(S:Bo):Bo :=
 if E.room<=(S.objs.length:Int)-5 then Fd E 5 S else (S.withObjs (S.objs++[(cl,[])])).push ((S.objs.length:Int)+1)
def Lq (E:Dn)(cl:Int)(S:Bo):Bo :=
 (Fs (Dk E.T E.FL cl).length S).popped.withObjs (P9 (Fs (Dk E.T E.FL cl).length S).top (Ih (Dk E.T E.FL cl).length S) S.objs)
def Ke (E:Dn)(n:Int)(S:Bo):Bo:=if S.top=0 then Fd E 3 S.popped else S.popped.push (Ss S.top (Il E.T E.FL n) S.objs)
def Kd (E:Dn)(n:Int)(S:Bo):Bo :=
 if S.popped.top=0 then Fd E 3 S.popped.popped else S.popped.popped.withObjs (Ra S.popped.top (Il E.T E.FL n) S.top S.objs)
def Oz (E:Dn)(cl:Int)(S:Bo):Bo :=
 if S.top=0 then S.popped.push S.top else if Tr.within E.T (Ho S.top S.objs) cl=true then S.popped.push S.top else Fd E 4 S.popped
def Ch (E:Dn)(op n:Int)(S:Bo):Bo :=
 if op<=6 then S.withNow (Jk op n S.now)
 else if op<=10 then L6 E op S
 else if op<=14 then S.withNow (Gq op n S.now)
 else if op=15 then L7 E n S
 else if op=16 then Lq E n S
 else if op=17 then Ke E n S
 else if op=18 then Kd E n S
 else if op=19 then Oz E n S
 else if op=20 then Su E n S
 else if op=21 then Oy E n S
 else if op=22 then Jq E S
 else if op=23 then Jc E S
 else if op=24 then Po E S
 else if op=25 then Vd S
 else S
def Fg (E:Dn)(c:Bi):Cd.Ins:=Cd.orZero (Cd.one (E.meth c.meth).code c.next)
def Mh (E:Dn)(S:Bo):Bo :=
 ⟨S.read,S.objs,⟨S.now.meth,S.now.next,(Fg E S.now).place.toNat+Cd.wd (Fg E S.now).op,S.now.lo,S.now.st,S.now.h⟩,S.wait,S.ended,S.out,S.status,S.value,S.steps+1⟩
def Gk (E:Dn)(S:Bo):Bo:=Ch E (Fg E S.now).op (Fg E S.now).n (Mh E S)
def N5 (E:Dn)(fuel:Nat):Nat->Bo->Bo
 | 0,S=>S
 | k+1,S=>if S.ended=true then S else if fuel<=S.steps then S.fin 1 0 else N5 E fuel k (Gk E S)
def Gb (entry:Int):Bo:=⟨0,[(2,[]),(3,[]),(4,[]),(5,[]),(6,[])],Cn entry [],[],false,[],0,0,0⟩
def Oc (E:Dn)(fuel:Nat)(entry:Int):Bo:=N5 E fuel (fuel+2) (Gb entry)
structure Bge(S R:Bo):Prop where
 steps:R.steps=S.steps
 out:R.out=S.out\/∃v,R.out=S.out++[v]
 fin:S.ended=false->R.ended=true->R.status=0\/R.status=2
structure Cr(S R:Bo):Prop where
 steps:R.steps=S.steps
 out:R.out=S.out
 fin:S.ended=false->R.ended=true->R.status=0\/R.status=2
def Cr.mild{S R:Bo}(h:Cr S R):Bge S R:=⟨h.steps,.inl h.out,h.fin⟩
def Cr.refl(S:Bo):Cr S S:=⟨rfl,rfl,fun c b=>by rw[c]at b;cases b⟩
def Cr.same{S R:Bo}(c:R.steps=S.steps)(e:R.out=S.out)(f:R.ended=S.ended):Cr S R:=⟨c,e,fun a b=>by rw[f,a]at b;cases b⟩
def Cr.then{S R Q:Bo}(c:R.steps=S.steps)(e:R.out=S.out)(f:R.ended=S.ended)(h:Cr R Q):Cr S Q :=
 ⟨h.steps.trans c,h.out.trans e,fun a b=>h.fin (f.trans a) b⟩
def Xk(E:Dn)(o b:Int):∀(k:Nat) (S:Bo),Cr S (Jd E o b k S)
 | 0,S=>Cr.refl S
 | k+1,S=>by
  unfold Jd;cases E.target b S.now with
  | some t=>exact Cr.same rfl rfl rfl
  | none =>
   cases S.wait.getLast? with
   | none=>exact⟨rfl,rfl,fun _ _=>.inr rfl⟩
   | some c=>exact Cr.then (R:=⟨S.read,S.objs,c,S.wait.dropLast,S.ended,S.out,S.status,S.value,S.steps⟩) rfl rfl rfl (Xk E o b k _)
def Zc(E:Dn)(o:Int)(S:Bo):Cr S (Lf E o S):=Xk _ _ _ _ _
def Kw(E:Dn)(b:Int)(S:Bo):Cr S (Fd E b S):=Zc _ _ _
def Wa(E:Dn)(m:Int)(b:TI)(S:Bo):Cr S (Hj E m b S):=by
 unfold Hj
 split
 ·exact Kw _ _ _
 exact Cr.same rfl rfl rfl
def Yh(r:Int×Int)(v:Int)(S:Bo):Cr S (Kf r v S):=by
 unfold Kf;cases S.wait.getLast? with
 | none=>exact⟨rfl,rfl,fun _ _=>.inl rfl⟩
 | some c=>exact Cr.same rfl rfl rfl
def Bnv(E:Dn)(op n:Int)(S:Bo):Bge S (Ch E op n S):=by
 unfold Ch;by_cases c:op<=6;·rw[Th c];exact Cr.mild (Cr.same rfl rfl rfl)
 rw[Pk c];by_cases e:op<=10
 ·rw[Th e];unfold L6;cases Ia op S.popped.top S.top with
  | none=>exact Cr.mild (Cr.then (R:=S.popped.popped) rfl rfl rfl (Kw _ _ _))
  | some z=>exact Cr.mild (Cr.same rfl rfl rfl)
 rw[Pk e];by_cases f:op<=14;·rw[Th f];exact Cr.mild (Cr.same rfl rfl rfl)
 rw[Pk f];by_cases g:op=15
 ·rw[Th g];unfold L7
  split
  ·exact Cr.mild (Kw _ _ _)
  exact Cr.mild (Cr.same rfl rfl rfl)
 rw[Pk g];by_cases h:op=16;·rw[Th h];exact Cr.mild (Cr.same rfl rfl rfl)
 rw[Pk h];by_cases i:op=17
 ·rw[Th i];unfold Ke
  split
  ·exact Cr.mild (Cr.then (R:=S.popped) rfl rfl rfl (Kw _ _ _))
  exact Cr.mild (Cr.same rfl rfl rfl)
 rw[Pk i];by_cases j:op=18
 ·rw[Th j];unfold Kd
  split
  ·exact Cr.mild (Cr.then (R:=S.popped.popped) rfl rfl rfl (Kw _ _ _))
  exact Cr.mild (Cr.same rfl rfl rfl)
 rw[Pk j];by_cases l:op=19
 ·rw[Th l];unfold Oz
  split
  ·exact Cr.mild (Cr.same rfl rfl rfl)
  split
  ·exact Cr.mild (Cr.same rfl rfl rfl)
  exact Cr.mild (Cr.then (R:=S.popped) rfl rfl rfl (Kw _ _ _))
 rw[Pk l];by_cases m:op=20;·rw[Th m];exact Cr.mild (Cr.then (R:=Fs (E.meth n).params.length S) rfl rfl rfl (Wa _ _ _ _))
 rw[Pk m];by_cases p:op=21
 ·rw[Th p];refine Cr.mild (Cr.then (R:=(Fs (E.meth n).params.length S).popped) rfl rfl rfl ?_);unfold Oy Nq
  split
  ·exact Kw _ _ _
  exact Wa _ _ _ _
 rw[Pk p];by_cases q:op=22
 ·rw[Th q];unfold Jq
  split
  ·exact Cr.mild (Yh _ _ _)
  exact Cr.mild (Cr.then (R:=S.popped) rfl rfl rfl (Yh _ _ _))
 rw[Pk q];by_cases s:op=23
 ·rw[Th s];unfold Jc
  split
  ·exact Cr.mild (Cr.then (R:=S.popped) rfl rfl rfl (Kw _ _ _))
  exact Cr.mild (Cr.then (R:=S.popped) rfl rfl rfl (Zc _ _ _))
 rw[Pk s];by_cases t:op=24
 ·rw[Th t];unfold Po
  split
  ·exact Cr.mild (Cr.same rfl rfl rfl)
  exact Cr.mild (Cr.same rfl rfl rfl)
 rw[Pk t];by_cases v:op=25;·rw[Th v];exact⟨rfl,.inr ⟨_,rfl⟩,fun a b=>by rw[show (Vd S).ended=S.ended from rfl,a]at b;cases b⟩
 rw[Pk v];exact Cr.mild (Cr.refl S)
def Rr(E:Dn)(S:Bo):(Gk E S).steps=S.steps+1/\((Gk E S).out=S.out\/∃v,(Gk E S).out=S.out++[v])/\(S.ended=false->(Gk E S).ended=true->(Gk E S).status=0\/(Gk E S).status=2):=by
 have h:=Bnv E (Fg E S.now).op (Fg E S.now).n (Mh E S);exact⟨h.steps,h.out,h.fin⟩
def In (E:Dn):Nat->Bo->Bo
 | 0,S=>S
 | k+1,S=>if S.ended=true then S else In E k (Gk E S)
def Nr (R:Bo):Bo:=if R.ended=true then R else R.fin 1 0
def Wr(E:Dn)(k:Nat){S:Bo}(h:S.ended=true):In E k S=S:=by cases k<;>simp[In,h]
def Bke(E:Dn):∀(a b:Nat) (S:Bo),In E (a+b) S=In E b (In E a S)
 | 0,b,S=>by rw[Brz];rfl
 | a+1,b,S=>by
  rw[show a+1+b=a+b+1 by omega,In,In];by_cases h:S.ended=true;·rw[Th h,Th h,Wr E b h]
  rw[Pk h,Pk h,Bke E a b]
def Bf3(E:Dn)(f:Nat):∀(d k:Nat) (S:Bo),S.steps+d=f->d+2<=k->N5 E f k S=Nr (In E d S)
 | d,0,S,_,hk=>Ck
 | d,k+1,S,hd,hk=>by
  unfold N5;by_cases h:S.ended=true;·rw[Th h,Wr E d h];unfold Nr;rw[Th h]
  rw[Pk h];cases d with
  | zero=>rw[Th Ck];unfold Nr;rw[In,Pk h]
  | succ e =>
   rw[Pk Ck,In,Pk h];exact Bf3 E f e k _ (by rw[(Rr E S).1];omega) Ck
def Bja(E:Dn)(f:Nat)(b:Int):Oc E f b=Nr (In E f (Gb b)):=by
 have:(Gb b).steps=0:=rfl;exact Bf3 E f f (f+2) _ (by rw[this];omega) Ck
structure Bpq(k:Nat)(S R:Bo):Prop where
 le:R.steps<=S.steps+k
 ge:S.steps<=R.steps
 on:R.ended=false->R.steps=S.steps+k
 out:∃l,R.out=S.out++l/\S.steps+l.length<=R.steps
 fin:S.ended=false->R.ended=true->(R.status=0\/R.status=2)/\S.steps<R.steps
def A5(E:Dn):∀(k:Nat) (S:Bo),Bpq k S (In E k S)
 | 0,S=>⟨Bru _,Bru _,fun _=>rfl,⟨[],by simp[In],by simp[In]⟩,fun a b=>by rw[show In E 0 S=S from rfl,a]at b;cases b⟩
 | k+1,S=>by
  unfold In;by_cases h:S.ended=true;·rw[Th h];exact⟨Ck,Bru _,fun a=>(by rw[a]at h;cases h),⟨[],Hd,Hd⟩,fun a=>(by rw[a]at h;cases h)⟩
  rw[Pk h];have i:S.ended=false:=by simpa using h
  obtain⟨p,j,m⟩:=Rr E S;have g:=A5 E k (Gk E S);have q:=g.le;have s:=g.ge;refine⟨Ck,Ck,fun a=>by have:=g.on a;omega,?_,fun _ b=>⟨?_,Ck⟩⟩
  ·obtain⟨l,f,t⟩:=g.out;rcases j with e|⟨v,e⟩
   ·exact⟨l,by rw[f,e],Ck⟩
   exact⟨v::l,by rw[f,e];simp,by simp only[Br7];omega⟩
  by_cases c:(Gk E S).ended=true;·rw[Wr E k c];exact m i c
  exact(g.fin (by simpa using c) b).1
def further(E:Dn)(f d:Nat)(c:Int)(A B:Bo)(e:Oc E f c=A)(i:Oc E (f+d) c=B):A.steps<=f/\B.steps<=f+d/\A.steps<=B.steps/\A.out.length<=A.steps/\((A.status=1/\(∃l,B.out=A.out++l)/\A.steps=f/\A.value=0)\/(A=B/\0<A.steps/\(A.status=0\/A.status=2))):=by
 rw[Bja]at e i;rw[Bke]at i;have g:=A5 E f (Gb c);have g2:=A5 E d (In E f (Gb c));have z:(Gb c).steps=0:=rfl;have m:(Gb c).out=[]:=rfl;have p:(Gb c).ended=false:=rfl;generalize In E f (Gb c)=R at *;have v:=g.le;have C:=g2.le;have D:=g.ge;have F:=g2.ge;obtain⟨l,j,G⟩:=g.out;rw[m,Btz]at j;unfold Nr at e i;by_cases h:R.ended=true;·rw[Th h]at e;subst e;rw[Wr E d h,Th h]at i;subst i;obtain⟨a,b⟩:=g.fin p h;exact⟨Ck,Ck,Ck,by rw[j];omega,.inr ⟨rfl,Ck,a⟩⟩
 rw[Pk h]at e;subst e;have I:R.steps=0+f:=by have:=g.on (by simpa using h);omega
 obtain⟨q,s,J⟩:=g2.out;have t:B.steps=(In E d R).steps/\B.out=(In E d R).out:=by
  rw[<- i];split<;>exact⟨rfl,rfl⟩
 refine⟨by show R.steps<=f;omega,Ck,by show R.steps<=B.steps;omega,by show R.out.length<=R.steps;rw[j];omega,.inl ⟨rfl,⟨q,?_⟩,by show R.steps=f;omega,rfl⟩⟩;rw[t.2,s];rfl
def Mid (w:TW)(B:Nat)(t:TypeId)(pre mid post:TV):Prop:=w.heap[B]?=some (.cells (pre++(mid++post)).toArray t (0,0))
def Mid.cell{w:TW}{u o j:Nat}{t:TypeId}{e J b:TV}(h:Mid w u t e J b)(f:e.length=o)(c:j<J.length):w.cell? (.a u (o+j))=J[j]?:=by
 rw[Bb h,Buq,Br0 Ck,show o+j-e.length=j by omega,Br6 c]
def Mid.free{w:TW}{u:Nat}{j:TypeId}{e J c:TV}(h:Mid w u j e J c)(b:Nat):w.frozen? (.a u b)=false:=Bk h b
def Mid.set{w:TW}{u o j:Nat}{t:TypeId}{e J c:TV}(h:Mid w u t e J c)(g:e.length=o)(f:j<J.length)(b:TX):Mid (w.setCell (.a u (o+j)) b) u t e (J.set j b) c:=by
 unfold Mid at h ⊢;rw[Bt h]
 congr 2
 rw[Bvz,Bs9 _ _ Ck,show o+j-e.length=j by omega,Buf _ _ f]
def Mid.range{w:TW}{u o:Nat}{j:TypeId}{e J f:TV}(h:Mid w u j e J f)(g:e.length=o):w.rangeAt u o J:=fun b v c=>by
 rw[h.cell g (List.getElem?_eq_some_iff.1 c).1];exact c
def Mid.there{w:TW}{u o n:Nat}{j:TypeId}{e J c:TV}(h:Mid w u j e J c)(f:e.length=o)(g:J.length=n):w.there u o n:=fun b i=>by
 refine⟨?_,h.free _⟩;rw[h.cell f Ck,Brl Ck];rfl
def Mid.lt{w:TW}{u:Nat}{j:TypeId}{e J b:TV}(h:Mid w u j e J b):u<w.heap.size:=Sp h
def Mid.below{w s:TW}{u:Nat}{j:TypeId}{e J b:TV}(h:Mid w u j e J b)(c:Bl w s):Mid s u j e J b:=by
 unfold Mid;rw[c.block u h.lt];exact h
def Mid.alloc{w:TW}{u:Nat}{j:TypeId}{e J b:TV}(h:Mid w u j e J b)(x:Obj):Mid (w.alloc x) u j e J b:=by
 unfold Mid;rw[Br2 w x u h.lt];exact h
def Mid.drewN{w:TW}{u:Nat}{j:TypeId}{e J b:TV}(h:Mid w u j e J b)(n:Nat):Mid (w.drewN n) u j e J b:=h
def Pe{u:Nat}{t:TypeId}:∀(f b e c:TV) (w:TW),e.length=f.length->Mid w u t b e c->Mid (w.setCells u b.length f) u t b f c
 | [],b,e,c,w,hl,h=>by
  obtain rfl:e=[]:=Bso (by simpa using hl);exact h
 | v::r,b,[],c,w,hl,h=>by simp at hl
 | v::r,b,x::q,c,w,hl,h=>by
  rw[World.setCells];have i:Mid (w.setCell (.a u b.length) v) u t b (v::q) c:=h.set (o:=b.length) (j:=0) rfl Hd v;have l:Mid (w.setCell (.a u b.length) v) u t (b++[v]) q c:=by
   unfold Mid at i ⊢;rw[i];simp
  have g:=Pe r (b++[v]) q c _ (by simpa using hl) l;rw[Ws,Bs8]at g;unfold Mid at g ⊢;rw[g];simp
def Gr.setB{u i:Nat}{a s:TW}(h:Gr u a s)(c:TX):Gr u a (s.setCell (.a u i) c):=h.set (.inr rfl) c
def Rk(B:Nat):∀(b:TV) (o:Nat) (w:TW),Gr B w (w.setCells B o b)
 | [],_,w=>Gr.refl B w
 | v::r,o,w=>by
  rw[World.setCells];exact((Gr.refl B w).set (.inr rfl) v).trans (Rk B r (o+1) _)
def Bi.cells(c:Bi):List Value:=.int .i64 c.meth :: .int .i64 (c.pos:Int) :: .int .i64 (c.next:Int)::(c.lo.map (Value.int .i64)++(c.st.map (Value.int .i64)++[.int .i64 (c.h:Int)]))
structure Dz(c:Bi):Prop where
 lo:c.lo.length=8
 st:c.st.length=8
 h:c.h<=8
def Dz.len{c:Bi}(h:Dz c):c.cells.length=20:=by simp[Bi.cells,h.lo,h.st]
def Nl(c:Bi):∀v∈c.cells,v.oneCell'=true:=by
 intro v b;simp only[Bi.cells,Bub,Bs1,List.mem_map,Buh,Bv8]at b;rcases b with rfl|rfl|rfl|⟨x,_,rfl⟩|⟨x,_,rfl⟩|rfl<;>rfl
def Bnm{c:Bi}(b:Dz c){k:Nat}(e:k<8):c.cells[3+k]?=some (.i (c.lo.getD k 0)):=by
 have h:=b.lo;rw[Bi.cells,show 3+k=k+1+1+1 by omega,Bsn,Bsn,Bsn,Br6 Fr,Bsf,Vm,Brl Ck];rfl
def Bnl{c:Bi}(b:Dz c){k:Nat}(e:k<8):c.cells[11+k]?=some (.i (c.st.getD k 0)):=by
 have h:=b.lo;have f:=b.st;rw[Bi.cells,show 11+k=8+k+1+1+1 by omega,Bsn,Bsn,Bsn,Br0 Fr,Br1,h,show 8+k-8=k by omega,
  Br6 Fr,Bsf,Vm,Brl Ck]
 rfl
def Bpc{c:Bi}(b:Dz c):c.cells[19]?=some (.i (c.h:Int)):=by
 have h:=b.lo;have e:=b.st;rw[Bi.cells,Bsn,Bsn,Bsn,Br0 Fr,Br1,h,Br0 Fr,Br1,e];rfl
def Bfj{c:Bi}(b:Dz c){k:Nat}(e:k<8)(v:Int):c.cells.set (3+k) (.i v)=(⟨c.meth,c.pos,c.next,c.lo.set k v,c.st,c.h⟩:Bi).cells:=by
 have h:=b.lo;rw[Bi.cells,show 3+k=k+1+1+1 by omega,Bsp,Bsp,Bsp,Buf _ _ Fr,<- But];rfl
def Bfi{c:Bi}(b:Dz c){k:Nat}(e:k<8)(v:Int):c.cells.set (11+k) (.i v)=(⟨c.meth,c.pos,c.next,c.lo,c.st.set k v,c.h⟩:Bi).cells:=by
 have h:=b.lo;have f:=b.st;rw[Bi.cells,show 11+k=8+k+1+1+1 by omega,Bsp,Bsp,Bsp,Bs9 _ _ Fr,Br1,h,show 8+k-8=k by omega,
  Buf _ _ Fr,<- But]
 rfl
def Bh3{c:Bi}(b:Dz c)(n:Nat):c.cells.set 19 (.i (n:Int))=(⟨c.meth,c.pos,c.next,c.lo,c.st,n⟩:Bi).cells:=by
 have h:=b.lo;have e:=b.st;rw[Bi.cells,Bsp,Bsp,Bsp,Bs9 _ _ Fr,Br1,h,Bs9 _ _ Fr,Br1,e];rfl
structure Bn4(w:World)(B o:Nat)(c:Bi):Prop where
 m:w.cell? ⟨B,o,none⟩=some (.int .i64 c.meth)
 p:w.cell? ⟨B,o+1,none⟩=some (.int .i64 (c.pos:Int))
 n:w.cell? ⟨B,o+2,none⟩=some (.int .i64 (c.next:Int))
 h:w.cell? ⟨B,o+19,none⟩=some (.int .i64 (c.h:Int))
 lo:∀k,k<8->w.cell? ⟨B,o+3+k,none⟩=some (.int .i64 (c.lo.getD k 0))
 st:∀k,k<8->w.cell? ⟨B,o+11+k,none⟩=some (.int .i64 (c.st.getD k 0))
 fr:∀j,w.frozen? ⟨B,j,none⟩=false
def Mid.sees{w:TW}{u o:Nat}{t:TypeId}{e J:TV}{c:Bi}(h:Mid w u t e c.cells J)(b:e.length=o)(f:Dz c):Bn4 w u o c:=by
 have i:=f.len;refine⟨?_,?_,?_,?_,fun k g=>?_,fun k g=>?_,fun j=>h.free j⟩
 ·have:=h.cell b (j:=0) Ck;rw[Bvh]at this;rw[this];rfl
 ·rw[h.cell b (j:=1) Ck];rfl
 ·rw[h.cell b (j:=2) Ck];rfl
 ·rw[h.cell b (j:=19) Ck];exact Bpc f
 ·rw[Buc,h.cell b (j:=3+k) Ck];exact Bnm f g
 rw[Buc,h.cell b (j:=11+k) Ck];exact Bnl f g
def Mid.setLo{w:TW}{u o k:Nat}{j:TypeId}{e J:TV}{c:Bi}(h:Mid w u j e c.cells J)(f:e.length=o)(b:Dz c)(g:k<8)(v:Int):Mid (w.setCell (.a u (o+3+k)) (.i v)) u j e (⟨c.meth,c.pos,c.next,c.lo.set k v,c.st,c.h⟩:Bi).cells J:=by
 have l:=b.len;rw[<- Bfj b g,Buc];exact h.set f Ck _
def Mid.setSt{w:TW}{u o k:Nat}{j:TypeId}{e J:TV}{c:Bi}(h:Mid w u j e c.cells J)(f:e.length=o)(b:Dz c)(g:k<8)(v:Int):Mid (w.setCell (.a u (o+11+k)) (.i v)) u j e (⟨c.meth,c.pos,c.next,c.lo,c.st.set k v,c.h⟩:Bi).cells J:=by
 have l:=b.len;rw[<- Bfi b g,Buc];exact h.set f Ck _
def Mid.setH{w:TW}{u o:Nat}{j:TypeId}{e J:TV}{c:Bi}(h:Mid w u j e c.cells J)(f:e.length=o)(b:Dz c)(z:Int)(n:Nat)(g:z=n):Mid (w.setCell (.a u (o+19)) (.i z)) u j e (⟨c.meth,c.pos,c.next,c.lo,c.st,n⟩:Bi).cells J:=by
 have l:=b.len;rw[<- Bh3 b,g];exact h.set f Ck _
def Mid.setP{w:TW}{u o:Nat}{t:TypeId}{e J:TV}{c:Bi}(h:Mid w u t e c.cells J)(b:e.length=o)(n:Nat):Mid (w.setCell (.a u (o+1)) (.i (n:Int))) u t e (⟨c.meth,n,c.next,c.lo,c.st,c.h⟩:Bi).cells J:=h.set b (j:=1) (by simp[Bi.cells]) _
def Mid.setN{w:TW}{u o:Nat}{t:TypeId}{e J:TV}{c:Bi}(h:Mid w u t e c.cells J)(b:e.length=o)(n:Nat):Mid (w.setCell (.a u (o+2)) (.i (n:Int))) u t e (⟨c.meth,c.pos,n,c.lo,c.st,c.h⟩:Bi).cells J:=h.set b (j:=2) (by simp[Bi.cells]) _
def Ko{c:Bi}(h:Dz c)(v:Int):Dz (D8 v c):=by
 unfold D8
 split
 ·exact h
 exact⟨h.lo,by simp[h.st],by have:=h.h;simp;omega⟩
def Fc{c:Bi}(h:Dz c):Dz (Bv c).2:=by
 unfold Bv
 split
 ·exact h
 exact⟨h.lo,h.st,by have:=h.h;simp;omega⟩
def Tz{c:Bi}(h:Dz c)(n v:Int):Dz (Ep n v c):=by
 unfold Ep
 split
 ·exact h
 split
 ·exact h
 exact⟨by simp[h.lo],h.st,h.h⟩
def Xf{c:Bi}(h:Dz c)(n:Nat):Dz (Ki n c):=⟨h.lo,h.st,h.h⟩
def Boh{c:Bi}(h:Dz c)(v:Int)(n:Nat):Dz (N4 v n c):=⟨h.lo,by simp[N4,h.st],by simp[N4]⟩
def Ax:∀(k:Nat) {c:Bi},Dz c->Dz (Dt k c).2
 | 0,_,h=>h
 | k+1,_,h=>Ax k (Fc h)
def Sx:∀(k:Nat) (c:Bi),(Dt k c).1.length=k
 | 0,_=>rfl
 | k+1,c=>by simp[Dt,Sx k]
def Bf8:∀(l:TI) (i:Nat) {c:Bi},Dz c->Dz (Jy i l c)
 | [],_,_,h=>h
 | v::r,i,_,h=>Bf8 r (i+1) (Tz h i v)
def Bfo(m:Int):Dz ⟨m,0,0,Ig,Ig,0⟩:=⟨rfl,rfl,Hd⟩
def Ph(m:Int)(b:TI):Dz (Cn m b):=Bf8 b 0 (Bfo m)
def Bov{c:Bi}(h:Dz c)(op n:Int):Dz (Jk op n c):=by
 unfold Jk;by_cases b:op=0;·rw[Th b];exact Ko h _
 rw[Pk b];by_cases e:op=1;·rw[Th e];exact Ko h _
 rw[Pk e];by_cases f:op=2;·rw[Th f];exact Ko h _
 rw[Pk f];by_cases g:op=3;·rw[Th g];exact Tz (Fc h) _ _
 rw[Pk g];by_cases i:op=4;·rw[Th i];exact Fc h
 rw[Pk i];by_cases j:op=5;·rw[Th j];exact Ko (Ko (Fc h) _) _
 rw[Pk j];by_cases l:op=6;·rw[Th l];exact Ko (Ko (Fc (Fc h)) _) _
 rw[Pk l];exact h
def Bk5{c:Bi}(h:Dz c)(op n:Int):Dz (Gq op n c):=by
 unfold Gq;by_cases b:op=12
 ·rw[Th b]
  split
  ·exact Xf (Fc h) _
  exact Fc h
 rw[Pk b];by_cases e:op=13
 ·rw[Th e]
  split
  ·exact Xf (Fc (Fc h)) _
  exact Fc (Fc h)
 rw[Pk e];by_cases f:op=14
 ·rw[Th f]
  split
  ·exact Xf (Fc h) _
  exact Fc h
 rw[Pk f];exact Xf h _
def Kv(c:Bi)(v:Int)(B o:Nat)(t:TypeId)(g m:TV)(w:TW)(j:g.length=o)(b:Dz c)(h:Mid w B t g c.cells m):Calls prog 238 #[.q B o,.i v] w fun e p=>e=.r (.tuple #[])/\Mid p B t g (D8 v c).cells m/\Gr B w p:=by
 obtain⟨s,z,A,J,C,l,f⟩:=h.sees j b;have K:=b.h;have L:¬(c.h:Int)<0:=Ck;have N:=f (o+19);unfold D8;by_cases D:8<=c.h;·rw[Th D];have G:(8:Int)<=(c.h:Int):=Ck;clear s z A C l f;go_in;go_wp2;refine tb (.tuple #[]) (by simp[results,results238,go_sem]) ?_;exact⟨rfl,h,Gr.refl _ _⟩
 rw[Pk D];have G:¬(8:Int)<=(c.h:Int):=Ck;have g2:c.h<8:=Ck;have O:=l c.h g2;have Q:=f (o+11+c.h);have F:=h.setSt j b g2 v;have I:=F.setH j ⟨b.lo,by simp[b.st],b.h⟩ ((c.h:Int)+1) (c.h+1) Hd;clear s z A C l f F;go_in;go_wp2
 go_region
 all_goals
  go_wp2;go_end0;exact⟨rfl,I.drewN _,(((Gr.refl _ _).setB _).setB _).drew⟩
def Is(c:Bi)(B o:Nat)(t:TypeId)(f m:TV)(w:TW)(p:f.length=o)(g:Dz c)(h:Mid w B t f c.cells m):Calls prog 240 #[.q B o] w fun e s=>e=.r (.i (Bv c).1)/\Mid s B t f (Bv c).2.cells m/\Gr B w s:=by
 obtain⟨v,z,A,j,C,b,l⟩:=h.sees p g;have D:=g.h;have I:=l (o+19);obtain⟨J,K,cn,L,N,F⟩:=c;unfold Bv;simp only at j D b ⊢;cases F with
 | zero =>
  rw[Th rfl];clear v z A C b l;simp at j;go_in;go_wp2;go_ret;exact⟨rfl,h,Gr.refl _ _⟩
 | succ k =>
  rw[Pk Hd];have g2:k<8:=Ck;have O:=b k g2;have G:=h.setH p g (k:Int) k rfl;have e:k+1-1=k:=rfl;rw[e];clear e v z A C b l;simp at j;go_in;go_wp2;go_quiet (fail);go_wp2;go_ret;exact⟨rfl,G.drewN _,((Gr.refl _ _).setB _).drewN _⟩
def Bhf(c:Bi)(n:Int)(B o:Nat)(t:TypeId)(s A:TV)(w:TW)(C:s.length=o)(D:Dz c)(h:Mid w B t s c.cells A):Calls prog 239 #[.q B o,.i n] w fun e F=>e=.r (.i (Tt n c))/\F=w:=by
 obtain⟨f,g,j,l,b,m,p⟩:=h.sees C D;unfold Tt;by_cases v:n<0;·rw[Th v];clear f g j l b m p;go_in;go_wp2;go_ret;exact⟨rfl,rfl⟩
 rw[Pk v];by_cases z:8<=n;·rw[Th z];clear f g j l b m p;go_in;go_wp2;go_ret;exact⟨rfl,rfl⟩
 rw[Pk z];obtain⟨k,rfl⟩:=Brp (show 0<=n by omega);have G:=b k Ck;rw[Brx];clear f g j l b m p;go_in;go_wp2;go_ret;exact⟨rfl,rfl⟩
def Wb(c:Bi)(n v:Int)(B o:Nat)(t:TypeId)(g z:TV)(w:TW)(A:g.length=o)(C:Dz c)(h:Mid w B t g c.cells z):Calls prog 130 #[.q B o,.i n,.i v] w fun e D=>e=.r (.tuple #[])/\Mid D B t g (Ep n v c).cells z/\Gr B w D:=by
 obtain⟨j,l,m,p,b,s,f⟩:=h.sees A C;unfold Ep;by_cases F:n<0;·rw[Th F];clear j l m p b s f;go_in;go_wp2;go_end0;exact⟨rfl,h,Gr.refl _ _⟩
 rw[Pk F];by_cases G:8<=n;·rw[Th G];clear j l m p b s f;go_in;go_wp2;go_end0;exact⟨rfl,h,Gr.refl _ _⟩
 rw[Pk G];obtain⟨k,rfl⟩:=Brp (show 0<=n by omega);have J:=b k Ck;have K:=f (o+3+k);have I:=h.setLo A C (k:=k) Ck v;rw[Brx];clear j l m p b s f;go_in;go_wp2;go_end0;exact⟨rfl,I,(Gr.refl _ _).setB _⟩
def Bjv(c:Bi)(v:Int)(n:Nat)(B o:Nat)(t:TypeId)(g l:TV)(w:TW)(b:g.length=o)(j:Dz c)(h:Mid w B t g c.cells l):Calls prog 286 #[.q B o,.i v,.i (n:Int)] w fun e A=>e=.r (.tuple #[])/\Mid A B t g (N4 v n c).cells l/\Gr B w A:=by
 obtain⟨m,p,C,O,s,z,f⟩:=h.sees b j;have Q:=f (o+19);have I:=h.setH b j 0 0 rfl;have D:Dz ⟨c.meth,c.pos,c.next,c.lo,c.st,0⟩:=⟨j.lo,j.st,Hd⟩
 have F:=Kv _ v B o t g l _ b D I;have J:=Bc F;clear F m p C s z f;go_in;go_wp2_with fail;refine Qm (Ba J) ?_;rintro V ⟨G,K⟩;obtain⟨m,p,C,L,s,z,f⟩:=G.sees b (Ko D v);have Y:=f (o+2);have N:=G.setN b n;clear m p L s z f;go_wp2;go_end0;exact⟨rfl,N,(((Gr.refl _ _).setB _).trans K).setB _⟩
def Bgt(n:Int)(w:TW)(c:0<=n)(f:n<=255):Calls prog 237 #[.i n] w fun e b=>e=.r (.i (L5 n))/\b=w:=by
 unfold L5;by_cases h:127<n;·rw[Th h];go_in;go_wp2;go_ret;exact⟨rfl,rfl⟩
 rw[Pk h];go_in;go_wp2;go_ret;exact⟨rfl,rfl⟩
def Pr(v:Int):wrap32 v=Fy v:=by unfold Fy wrap32;omega
def Vh(v:Int):wrap64 (Fy v)=Fy v:=by unfold Fy wrap64;omega
def Bb4(op x y:Int)(w:TW):Calls prog 241 #[.i op,.i x,.i y] w fun e h=>e=.r (.tuple #[.i ((Ia op x y).getD 0),.bool (Ia op x y).isSome])/\h=w:=by
 unfold Ia;by_cases b:op=7;·rw[Th b];subst b;go_in;go_wp2;go_ret2;exact⟨by simp[Vh,Pr],rfl⟩
 rw[Pk b];by_cases c:op=8;·rw[Th c];subst c;clear b;go_in;go_wp2;go_ret2;exact⟨by simp[Vh,Pr],rfl⟩
 rw[Pk c];by_cases f:op=9;·rw[Th f];subst f;clear b c;go_in;go_wp2;go_ret2;exact⟨by simp[Vh,Pr],rfl⟩
 rw[Pk f];have j:(op==7)=false:=by simp[b]
 have l:(op==8)=false:=by simp[c]
 have m:(op==9)=false:=by simp[f]
 clear b c f;by_cases g:Fy y=0;·rw[Th g];rw[<- Pr]at g;go_in;go_wp2;go_ret2;exact⟨rfl,rfl⟩
 rw[Pk g];rw[<- Pr]at g;have p:(wrap32 y==0)=false:=by simp[g]
 go_in;go_wp2;go_ret2;exact⟨by simp[Vh,Pr],rfl⟩
def Bj2(c:Bi)(p op n:Int)(B o:Nat)(t:TypeId)(b f:TV)(w:TW)(g:b.length=o)(j:Dz c)(h:Mid w B t b c.cells f)(z:0<=op/\op<=6)(N:0<=n/\n<=255):Calls prog 188 #[.q B o,.agg #[.i p,.i op,.i n]] w fun e K=>e=.r (.tuple #[])/\Mid K B t b (Jk op n c).cells f/\Gr B w K:=by
 obtain⟨O,Q⟩:=N;have a1:=h.lt;rcases(show op=0\/op=1\/op=2\/op=3\/op=4\/op=5\/op=6 by omega) with rfl|rfl|rfl|rfl|rfl|rfl|rfl
 ·have F:=fun w=>Bgt n w O Q;have m:=Kv c (L5 n) B o t b f _ g j (h.alloc (O15 p 0 n));have e:Jk 0 n c=D8 (L5 n) c:=rfl;rw[e];clear z e;go_in;go_wp2_with (first|(go_at_call 237;refine(F _).mono ?_;rintro e v ⟨rfl,rfl⟩)|(go_at_call 238;refine m.mono ?_;rintro e v ⟨rfl,s,l⟩))
  go_end0;exact⟨rfl,s,((Gr.refl _ _).alloc _).trans l⟩
 ·have m:=Kv c 0 B o t b f _ g j (h.alloc (O15 p 1 n));have e:Jk 1 n c=D8 0 c:=rfl;rw[e];clear z e;go_in;go_wp2_with (go_at_call 238;refine m.mono ?_;rintro e v ⟨rfl,s,l⟩)
  go_end0;exact⟨rfl,s,((Gr.refl _ _).alloc _).trans l⟩
 ·have F:=Bhf c n B o t b f _ g j (h.alloc (O15 p 2 n));have m:=Kv c (Tt n c) B o t b f _ g j (h.alloc (O15 p 2 n));have e:Jk 2 n c=D8 (Tt n c) c:=rfl;rw[e];clear z e;go_in;go_wp2_with (first|(go_at_call 239;refine F.mono ?_;rintro e v ⟨rfl,rfl⟩)|(go_at_call 238;refine m.mono ?_;rintro e v ⟨rfl,s,l⟩))
  go_end0;exact⟨rfl,s,((Gr.refl _ _).alloc _).trans l⟩
 ·have m:=Is c B o t b f _ g j (h.alloc (O15 p 3 n));have A:=fun w h=>Wb (Bv c).2 n (Bv c).1 B o t b f w g (Fc j) h;have e:Jk 3 n c=Ep n (Bv c).1 (Bv c).2:=rfl;rw[e];have V:=Be w (O15 p 3 n);clear z e;go_in;go_wp2_with fail;refine Qm m ?_;rintro v ⟨s,l⟩;have Y:=l.own V Ck;have Z:=Bb Y 2;simp at Z;go_wp2_with fail;refine Qm (A _ s) ?_;rintro L ⟨C,D⟩;go_wp2;go_end0;exact⟨rfl,C,(((Gr.refl _ _).alloc _).trans l).trans D⟩
 ·have m:=Is c B o t b f _ g j (h.alloc (O15 p 4 n));have e:Jk 4 n c=(Bv c).2:=rfl;rw[e];clear z e;go_in;go_wp2_with fail;refine Qm m ?_;rintro v ⟨s,l⟩;go_wp2;go_end0;exact⟨rfl,s,((Gr.refl _ _).alloc _).trans l⟩
 ·have m:=Is c B o t b f _ g j (h.alloc (O15 p 5 n));have A:=fun w h=>Kv (Bv c).2 (Bv c).1 B o t b f w g (Fc j) h;have G:=fun w h=>Kv (D8 (Bv c).1 (Bv c).2) (Bv c).1 B o t b f w g (Ko (Fc j) _) h;have e:Jk 5 n c=D8 (Bv c).1 (D8 (Bv c).1 (Bv c).2):=rfl;rw[e];clear z e;go_in;go_wp2_with fail;refine Qm m ?_;rintro v ⟨s,l⟩;go_wp2_with fail;refine Qm (A _ s) ?_;rintro L ⟨C,D⟩;go_wp2_with fail;refine Qm (G _ C) ?_;rintro w3 ⟨I,J⟩;go_wp2;go_end0;exact⟨rfl,I,((((Gr.refl _ _).alloc _).trans l).trans D).trans J⟩
 have m:=Is c B o t b f _ g j (h.alloc (O15 p 6 n));have hQ:=fun w h=>Is (Bv c).2 B o t b f w g (Fc j) h;have A:=fun w h=>Kv (Bv (Bv c).2).2 (Bv c).1 B o t b f w g (Fc (Fc j)) h;have G:=fun w h=>Kv (D8 (Bv c).1 (Bv (Bv c).2).2) (Bv (Bv c).2).1 B o t b f w g (Ko (Fc (Fc j)) _) h;have e:Jk 6 n c=D8 (Bv (Bv c).2).1 (D8 (Bv c).1 (Bv (Bv c).2).2):=rfl;rw[e];clear z e;go_in;go_wp2_with fail;refine Qm m ?_;rintro v ⟨s,l⟩;go_wp2_with fail;refine Qm (hQ _ s) ?_;rintro L ⟨C,D⟩;go_wp2_with fail;refine Qm (A _ C) ?_;rintro w3 ⟨I,J⟩;go_wp2_with fail;refine Qm (G _ I) ?_;rintro w4 ⟨h4,a0⟩;go_wp2;go_end0;exact⟨rfl,h4,(((((Gr.refl _ _).alloc _).trans l).trans D).trans J).trans a0⟩
def Be7(c:Bi)(p op n:Int)(B o:Nat)(t:TypeId)(v K:TV)(w:TW)(j:v.length=o)(z:Dz c)(h:Mid w B t v c.cells K)(V:11<=op/\op<=14)(hn:0<=n):Calls prog 190 #[.q B o,.agg #[.i p,.i op,.i n]] w fun e w'=>e=.r (.tuple #[])/\Mid w' B t v (Gq op n c).cells K/\Gr B w w':=by
 have a3:=h.lt;obtain⟨k,rfl⟩:=Brp hn;have A:∀op:Int,(w.alloc (O15 p op (k:Int))).heap[w.heap.size]?=_:=fun op=>Be w (O15 p op (k:Int));rcases(show op=11\/op=12\/op=13\/op=14 by omega) with rfl|rfl|rfl|rfl
 ·have e:Gq 11 k c=Ki k c:=rfl;rw[e];have b:=h.alloc (O15 p 11 (k:Int));obtain⟨C,D,s2,F,G,I,l⟩:=h.sees j z;have f2:=l (o+2);have J:=(h.setN j k).alloc (O15 p 11 (k:Int));clear V e C D F G I l A;go_in;go_wp2;go_end0;exact⟨rfl,J,((Gr.refl _ _).setB _).alloc _⟩
 ·have m:=Is c B o t v K _ j z (h.alloc (O15 p 12 (k:Int)));have L:=A 12;have s:=Fc z;have e:Gq 12 k c=if (Bv c).1=0 then Ki k (Bv c).2 else (Bv c).2:=rfl
  rw[e];clear e;generalize Bv c=r at *;obtain⟨x,c1⟩:=r;simp only at m s ⊢;clear V A;by_cases f:x=0;·rw[Th f];subst f;go_in;go_wp2_with fail;refine Qm m ?_;rintro N ⟨b,g⟩;have O:=g.own L Ck;have Q:=Bb O 2;simp at Q;obtain⟨C,D,s2,F,G,I,l⟩:=b.sees j s;have f2:=l (o+2);have J:=b.setN j k;clear C D F G I l;go_wp2;go_end0;exact⟨rfl,J,(((Gr.refl _ _).alloc _).trans g).setB _⟩
  rw[Pk f];have a2:(x==0)=false:=by simp[f]
  clear f;go_in;go_wp2_with fail;refine Qm m ?_;rintro N ⟨b,g⟩;go_wp2;go_end0;exact⟨rfl,b,((Gr.refl _ _).alloc _).trans g⟩
 ·have m:=Is c B o t v K _ j z (h.alloc (O15 p 13 (k:Int)));have L:=A 13;have s:=Fc z;have Y:=fun w h=>Is (Bv c).2 B o t v K w j s h;have a1:=Fc s;have e:Gq 13 k c=if (Bv (Bv c).2).1<(Bv c).1 then Ki k (Bv (Bv c).2).2 else (Bv (Bv c).2).2:=rfl
  rw[e];generalize Bv c=r at *;obtain⟨y,c1⟩:=r;simp only at m s Y a1 ⊢;generalize Bv c1=r at *;obtain⟨x,c2⟩:=r;simp only at Y a1 ⊢;clear V A e;by_cases f:x<y;·rw[Th f];go_in;go_wp2_with fail;refine Qm m ?_;rintro N ⟨b,g⟩;go_wp2_with fail;refine Qm (Y _ b) ?_;rintro w2 ⟨Z,a0⟩;have O:=a0.own (g.own L Ck) Ck;have Q:=Bb O 2;simp at Q;obtain⟨C,D,s2,F,G,I,l⟩:=Z.sees j a1;have f2:=l (o+2);have J:=Z.setN j k;clear C D F G I l;go_wp2;go_end0;exact⟨rfl,J,((((Gr.refl _ _).alloc _).trans g).trans a0).setB _⟩
  rw[Pk f];go_in;go_wp2_with fail;refine Qm m ?_;rintro N ⟨b,g⟩;go_wp2_with fail;refine Qm (Y _ b) ?_;rintro w2 ⟨Z,a0⟩;go_wp2;go_end0;exact⟨rfl,Z,(((Gr.refl _ _).alloc _).trans g).trans a0⟩
 have m:=Is c B o t v K _ j z (h.alloc (O15 p 14 (k:Int)));have L:=A 14;have s:=Fc z;have e:Gq 14 k c=if (Bv c).1=0 then Ki k (Bv c).2 else (Bv c).2:=rfl
 rw[e];clear e;generalize Bv c=r at *;obtain⟨x,c1⟩:=r;simp only at m s ⊢;clear V A;by_cases f:x=0;·rw[Th f];subst f;go_in;go_wp2_with fail;refine Qm m ?_;rintro N ⟨b,g⟩;have O:=g.own L Ck;have Q:=Bb O 2;simp at Q;obtain⟨C,D,s2,F,G,I,l⟩:=b.sees j s;have f2:=l (o+2);have J:=b.setN j k;clear C D F G I l;go_wp2;go_end0;exact⟨rfl,J,(((Gr.refl _ _).alloc _).trans g).setB _⟩
 rw[Pk f];have a2:(x==0)=false:=by simp[f]
 clear f;go_in;go_wp2_with fail;refine Qm m ?_;rintro N ⟨b,g⟩;go_wp2;go_end0;exact⟨rfl,b,((Gr.refl _ _).alloc _).trans g⟩
def Box(n:Nat)(j:n<=1000)(w:TW):(Instr.makeSlice 26 (.i (n:Int)) (.i (n:Int))).run prog w=.ok (.s (.p w.heap.size) n n) (w.alloc (.cells (List.replicate n (Value.int .i64 0)).toArray 3)):=by
 obtain⟨b,c,f,g,h⟩:=Bsa Tryz.infoInt;have:=run_make w 26 3 b _ Bta c f .i64 .i64 (n:Int) (n:Int) Ck (Bu7 _) (by rw[h];omega) Ck;rw[g]at this;have e:madeCells (Value.int .i64 0).cells (n*1)=(List.replicate n (Value.int .i64 0)).toArray:=by
  apply Array.ext
  ·simp[madeCells]
  intro i l m;simp[madeCells,Value.cells,Nat.mod_one]
 rw[Brx,e]at this;exact this
def Bau:∀(k:Nat) (c:Bi),Dt (k+1) c=((Bv (Dt k c).2).1::(Dt k c).1,(Bv (Dt k c).2).2)
 | 0,c=>by simp[Dt]
 | k+1,c=>by
  have h:=Bau k (Bv c).2;rw[Dt,h,Dt];simp
def Bm6{w:TW}{u n:Nat}{z:TI}(c:z.length=n)(f:n<=1000){t:Nat}(e:u<=t)(h:w.heap[t]?=some (.cells (z.map (Value.int .i64)).toArray 3 (0,0))):De w u (.s (.p t) n n) z:=by
 refine⟨Hd,.inr ⟨t,n,_,by rw[c],e,h,Ck,Pf,by simp[c],?_⟩⟩;simp only[Bw7];rw[Bs7 Hd]
def Boj{k:Nat}{l v:TX}{e:TV}:((List.replicate (k+1) l++e).toArray).setIfInBounds k v=(List.replicate k l++(v::e)).toArray:=by
 rw[Bvz]
 congr 1
 rw[Bue,Bsi,Bs9 _ _ Hd];simp
def Bp1{k:Nat}{l:TX}{e:TV}:((List.replicate (k+1) l++e).toArray)[k]?=some l:=by
 rw[Buq,Br6 Hd];simp
def Be4(c:Bi)(la:TA)(n lc:Nat)(B o:Nat)(t:TypeId)(b f:TV)(w:TW)(ho:b.length=o)(hf:Dz c)(J:n<=1000)(h:Mid w B t b c.cells f):Calls prog 248 #[.q B o,.s la n lc] w fun e m=>e=.r (.s (.p w.heap.size) n n)/\De m w.heap.size (.s (.p w.heap.size) n n) (Dt n c).1/\Mid m B t b (Dt n c).2.cells f/\Gr B w m:=by
 have K:=fun w=>Box n J w;have a4:=h.lt;have a3:w.heap.size≠B:=Ck;have v:=h.alloc (.cells (List.replicate n (Value.int .i64 0)).toArray 3);have z:=Be w (.cells (List.replicate n (Value.int .i64 0)).toArray 3);have g:=fun j w h=>Is (Dt j c).2 B o t b f w ho (Ax j hf) h;have L:=fun j=>Bau j c;have N:=fun j=>Sx j c;have O:=Bc g;have Q:=Bc L;have V:=Bc N;clear g L N h;go_in;go_wp2
 go_loopw [6] (fun i wr=>∃(k j:Nat),k+j=n/\i=.i ((k:Int)-1)/\wr.heap[w.heap.size]?=some (.cells (List.replicate k (Value.int .i64 0)++(Dt j c).1.map (Value.int .i64)).toArray 3 (0,0))/\Mid wr B t b (Dt j c).2.cells f/\Gr B w wr)
  (fun i _=>(intOf i+1).toNat)
 case atStart=>exact⟨n,0,Ck,rfl,by simpa[Dt] using z,v,(Gr.refl _ _).alloc _⟩
 case round=>
  obtain⟨k,j,a5,rfl,A,C,D⟩:=hrel;cases k with
  | zero =>
   have hj:j=n:=Ck;subst hj;clear K v z;go_wp2;go_ret;refine⟨rfl,Bm6 (Ba V j) J (Bru _) (by simpa using A),C,D⟩
  | succ k =>
   have g:=Ba O j _ C;have e1:((k+1:Nat):Int)-1=(k:Int):=Ck;have a6:=D.size;clear K v z C;go_wp2_with fail;refine Qm g ?_;rintro w1 ⟨Y,F⟩;have l:=F.own A a3;have G:=Bt (i:=k) l (.i (Bv (Dt j c).2).1);rw[Boj]at G;have y0:=Bb l k;have y1:=Bk l k;rw[Bp1]at y0;have a7:(k:Int)<(n:Int):=Ck;have Z:Mid (w1.setCell (.a w.heap.size k) (.i (Bv (Dt j c).2).1)) B t b (Bv (Dt j c).2).2.cells f:=by
    unfold Mid;rw[Brk _ _ _ _ (by simpa using (show B≠w.heap.size by omega))];exact Y
   have HG:=Bc (D.trans F);have a0:=Ba Q j;have I:=Bc a0;have a1:=Bc Z;have a2:=Bc G;clear g O Q V Y F A l Z a0 G;generalize Bv (Dt j c).2=pv at *;obtain⟨x,c2⟩:=pv;simp only at I a1 a2 ⊢;go_wp2;go_roundw
   case rel=>exact⟨k,j+1,Ck,rfl,by rw[Ba I];exact Ba a2,by rw[Ba I];exact Ba a1,(Ba HG).set (.inl (Bru _)) _⟩
   case measure=>simp[intOf]
def Tryz.infoCall:(prog.info? 152).map (·.size)=some 20:=Lt
def Bar{u b:Nat}{v w:TW}(c:Below u v w)(h:u<=b)(e:Array Value):Below u v (w.setRow b e) :=
 ⟨c.os,c.tape,c.output,by rw[Bwq];exact c.size,fun k f=>(Bwa w b k e Ck).trans (c.block k f)⟩
def Bfv{w:TW}{u:Nat}{G b:Array Value}{j:TypeId}(c:w.heap[u]?=some (.cells G j (0,0))):(w.setRow u b).heap[u]?=some (.cells b j (0,0)):=Bw6 w u G b j (0,0) c
def Bp0{w:TW}{u k:Nat}{G:Array Value}(h:k≠u):(w.setRow u G).heap[k]?=w.heap[k]?:=Bwa w u k G h
theorem Wt{w:World}{u:Nat}{a:Option Addr}{n t:Nat}{z:List Int}(h:De w u (.slice a n t) z)(m:0<z.length):∃g,a=some ⟨g,0,none⟩/\g<w.heap.size/\∀k (e:k<z.length),w.cell? ⟨g,k,none⟩=some (.int .i64 z[k]):=by
 obtain⟨p,⟨_,q⟩|⟨g,s,v,f,_,i,A,_,B,j⟩⟩:=h
 ·omega
 simp only[Value.slice.injEq]at f;refine⟨g,f.1,Sp i,fun k e=>?_⟩;have:=congrArg (·[k]?) j;simp only[Bs0,Bw7,Th e,Bsf,Brl e,Option.map_some]at this;rw[Bb i];simpa using this
def Bne(k:Nat)(c:Bi):Jy k [] c=c:=rfl
theorem Xw(m:Int)(F:Option Addr)(vc:Nat)(b:List Int)(bb:Nat)(w:World)(hl:b.length<=1000)(hv:De w bb (.slice F b.length vc) b):Calls prog 84 #[.int .i64 m,.slice F b.length vc] w fun e w'=>e=.returned (.agg (Cn m b).cells.toArray)/\Below w.heap.size w w':=by
 have G:Below w.heap.size w (((w.alloc (O26 0 0 0 0 0 0 0 0 0 0 0 0 0 0 0 0 0 0 0 0)).alloc (O26 0 0 0 0 0 0 0 0 0 0 0 0 0 0 0 0 0 0 0 0)).setRow (w.heap.size+1) #[.int .i64 m,.int .i64 0,.int .i64 0,.int .i64 0,.int .i64 0,.int .i64 0,.int .i64 0,.int .i64 0,.int .i64 0,.int .i64 0,.int .i64 0,.int .i64 0,.int .i64 0,.int .i64 0,.int .i64 0,.int .i64 0,.int .i64 0,.int .i64 0,.int .i64 0,.int .i64 0]):=Bar (Bu _ _ _) Ck _;have I:(((w.alloc (O26 0 0 0 0 0 0 0 0 0 0 0 0 0 0 0 0 0 0 0 0)).alloc (O26 0 0 0 0 0 0 0 0 0 0 0 0 0 0 0 0 0 0 0 0)).setRow (w.heap.size+1) #[.int .i64 m,.int .i64 0,.int .i64 0,.int .i64 0,.int .i64 0,.int .i64 0,.int .i64 0,.int .i64 0,.int .i64 0,.int .i64 0,.int .i64 0,.int .i64 0,.int .i64 0,.int .i64 0,.int .i64 0,.int .i64 0,.int .i64 0,.int .i64 0,.int .i64 0,.int .i64 0]).heap[w.heap.size]?=some (O26 0 0 0 0 0 0 0 0 0 0 0 0 0 0 0 0 0 0 0 0):=(Bp0 Ck).trans (Cb _ _ _);have J:Mid (((w.alloc (O26 0 0 0 0 0 0 0 0 0 0 0 0 0 0 0 0 0 0 0 0)).alloc (O26 0 0 0 0 0 0 0 0 0 0 0 0 0 0 0 0 0 0 0 0)).setRow (w.heap.size+1) #[.int .i64 m,.int .i64 0,.int .i64 0,.int .i64 0,.int .i64 0,.int .i64 0,.int .i64 0,.int .i64 0,.int .i64 0,.int .i64 0,.int .i64 0,.int .i64 0,.int .i64 0,.int .i64 0,.int .i64 0,.int .i64 0,.int .i64 0,.int .i64 0,.int .i64 0,.int .i64 0]) (w.heap.size+1) 152 [] (⟨m,0,0,Ig,Ig,0⟩:Bi).cells []:=Bfv (Bx _ _ _);have l:Hid (Jy 0 (b.drop 0) ⟨m,0,0,Ig,Ig,0⟩=Cn m b):=rfl;generalize Cn m b=N at *;have z:=fun c n v wr h s=>Wb c n v (w.heap.size+1) 0 152 [] [] wr rfl s h;go_in;go_wp2_with (refine wpList_store_row Ls 152 (.tmp 5) (.tmp 9) Ls (w.heap.size+1) #[.int .i64 m,.int .i64 0,.int .i64 0,.int .i64 0,.int .i64 0,.int .i64 0,.int .i64 0,.int .i64 0,.int .i64 0,.int .i64 0,.int .i64 0,.int .i64 0,.int .i64 0,.int .i64 0,.int .i64 0,.int .i64 0,.int .i64 0,.int .i64 0,.int .i64 0,.int .i64 0] Ls Ls 152 _ (Bx w _ _) Tryz.infoCall Ls (by simp[Value.oneCell']) ?_)
 generalize (((w.alloc (O26 0 0 0 0 0 0 0 0 0 0 0 0 0 0 0 0 0 0 0 0)).alloc (O26 0 0 0 0 0 0 0 0 0 0 0 0 0 0 0 0 0 0 0 0)).setRow (w.heap.size+1) #[.int .i64 m,.int .i64 0,.int .i64 0,.int .i64 0,.int .i64 0,.int .i64 0,.int .i64 0,.int .i64 0,.int .i64 0,.int .i64 0,.int .i64 0,.int .i64 0,.int .i64 0,.int .i64 0,.int .i64 0,.int .i64 0,.int .i64 0,.int .i64 0,.int .i64 0,.int .i64 0])=w1 at *
 go_loopw [12] (fun i wr=>∃(k:Nat) (c:Bi),k<=b.length/\i=.int .i64 (k:Int)/\Hid (Jy k (b.drop k) c=N)/\Dz c/\Mid wr (w.heap.size+1) 152 [] c.cells []/\wr.heap[w.heap.size]?=some (O26 0 0 0 0 0 0 0 0 0 0 0 0 0 0 0 0 0 0 0 0)/\Below w.heap.size w wr)
  (fun i _=>b.length-(intOf i).toNat)
 case atStart=>exact⟨0,_,Ck,rfl,l,Bfo m,J,I,G⟩
 case round=>
  clear l J I G;obtain⟨k,c,hk,rfl,l,s,t,A,f⟩:=hrel;by_cases K:k<b.length
  ·obtain⟨g,hg,a0,L⟩:=Wt hv Ck;have O:=L k K;have y1:wr.cell? ⟨g,k,none⟩=some (.int .i64 b[k]):=by rw[f.cell (p:=⟨g,k,none⟩) a0];exact O
   have Q:=z c (k:Int) b[k] wr t s;have a1:=Tz s (k:Int) b[k];have V:b.drop k=b[k]::b.drop (k+1):=by rw[Brj K]
   have a2:Hid (Jy (k+1) (b.drop (k+1)) (Ep (k:Int) b[k] c)=N):=by
    have:=Ba l;rw[V]at this;exact this
   have b0:(k:Int)<(b.length:Int):=Ck;have a3:=f.size;generalize b[k]=x at *;subst hg;clear l V O L z t;go_wp2_with fail;refine Q.mono ?_;rintro e w2 ⟨rfl,h2,q⟩;have a4:=q.own A Ck;have a5:Below w.heap.size w w2:=⟨(World.grownBy.os q).trans f.os,(World.grownBy.tape q).trans f.tape,(World.grownBy.output q).trans f.output,Br5 f.size q.size,fun j Y=>(q.blk (Brs Y a3) Ck).trans (f.block j Y)⟩;clear q Q;go_wp2;go_roundw
   case rel=>exact⟨k+1,_,Ck,Mg,a2,a1,h2,a4,a5⟩
   case measure=>simp[intOf];omega
  have a6:k=b.length:=Ck;subst a6;have B:=Ba l;rw[List.drop_length,Bne]at B;have a7:wr.heap[w.heap.size+1]?=some (.cells c.cells.toArray 152 (0,0)):=by
   have:=t;unfold Mid at this;simpa using this
  have C:(prog.info? 152).map (·.size)=some c.cells.toArray.size:=by rw[Tryz.infoCall];simp[s.len]
  have hz:20=c.cells.toArray.size:=by simp[s.len]
  have a8:=Bui (Nl c);have HN:=Bc B;clear B l z t;generalize Z:c.cells.toArray=D at *;have a9:=Bc Z;clear Z;go_wp2_with (first|(refine Bsj Ls 152 (.tmp 5) Ls (w.heap.size+1) Ls 152 D (0,0) _ a7 Bu4 Ls C ?_)|(refine wpList_store_row Ls 152 (.tmp 4) (.tmp 21) Ls w.heap.size D Ls Ls 152 _ A C hz a8 ?_))
  refine Wf (results_cell_row results84 _ _ w.heap.size 152 D (0,0) _ Ls (Bfv A) Bu4 Ls C) rfl ?_;exact⟨by rw[<- Ba a9,Ba HN],Bar f (Bru _) _⟩
def ocells:List (Int × List Int)->TV->List Value
 | x::r,v::vs=>.int .i64 x.1::v::ocells r vs
 | _,_=>[]
def Zt:∀(l:List (Int×List Int)) (b:TV),b.length=l.length->(ocells l b).length=l.length*2
 | [],[],_=>rfl
 | [],_::_,h=>by simp at h
 | _::_,[],h=>by simp at h
 | x::r,v::b,h=>by simp only[ocells,Br7];rw[Zt r b (by simpa using h)];omega
def Ba3:∀(l:List (Int×List Int)) (c:TV),c.length=l.length->∀i,i<l.length->(ocells l c)[i*2]?=some (.i (l.getD i (0,[])).1)/\(ocells l c)[i*2+1]?=some (c.getD i (.s none 0 0))
 | [],_,_,i,h=>by simp at h
 | x::r,[],h,_,_=>by simp at h
 | x::r,v::c,h,0,_=>⟨rfl,rfl⟩
 | x::r,v::c,h,i+1,hi=>by
  obtain⟨a,b⟩:=Ba3 r c (by simpa using h) i (by simpa using hi);rw[show (i+1)*2=i*2+1+1 by omega,ocells];exact⟨by simpa using a,by simpa using b⟩
def Vs:∀(l:List (Int×List Int)) (b:TV),b.length=l.length->∀(x:Int×List Int) (v:TX),ocells (l++[x]) (b++[v])=ocells l b++[.i x.1,v]
 | [],[],_,_,_=>rfl
 | [],_::_,h,_,_=>by simp at h
 | _::_,[],h,_,_=>by simp at h
 | y::r,u::b,h,x,v=>by simp only[Bs5,ocells];rw[Vs r b (by simpa using h)]
def Zr:∀(l:List (Int×List Int)) (b:TV),b.length=l.length->∀(i:Nat) (c:Int) (e:TI) (v:TX),(l.getD i (0,[])).1=c->i<l.length->(ocells l b).set (i*2+1) v=ocells (l.set i (c,e)) (b.set i v)
 | [],_,_,i,_,_,_,_,h=>by simp at h
 | x::r,[],h,_,_,_,_,_,_=>by simp at h
 | x::r,u::b,_,0,c,e,v,hc,_=>by
  have:x.1=c:=hc;simp[ocells,this]
 | x::r,u::b,h,i+1,c,e,v,hc,hi=>by
  rw[show (i+1)*2+1=(i*2+1)+1+1 by omega];simp only[ocells,Bsp];rw[Zr r b (by simpa using h) i c e v (by simpa using hc) (by simpa using hi)]
def Xv:∀(l c:List (Int×List Int)) (b:TV),l.map Prod.fst=c.map Prod.fst->ocells l b=ocells c b
 | [],[],_,_=>rfl
 | [],_::_,_,h=>by simp at h
 | _::_,[],_,h=>by simp at h
 | x::r,y::q,[],_=>rfl
 | x::r,y::q,v::b,h=>by
  simp only[Bsw,List.cons.injEq]at h;simp only[ocells];rw[h.1,Xv r q b h.2]
structure Cw where
 B:Nat
 ob:Nat
 w0:World
 wE:World
 ca:Option Addr
 cn:Nat
 cc:Nat
 ma:Option Addr
 mc:Nat
 tg:Nat
 tc:Nat
 ya:Option Addr
 yc:Nat
 bm:Nat
 bf:Nat
 T:List Int
 lf:List (Value × List (Int × Int))
 lms:List (Rd.Mth × Ex)
 entry:Int
 ia:Option Addr
 ic:Nat
 ins:List Int
 room:Int
 depth:Int
 fuel:Int
def Cw.E (k:Cw):Dn:=⟨k.T,k.lf.map Prod.snd,k.lms.map Prod.fst,k.ins,k.room,k.depth⟩
def Ft (w:TW)(a:TA)(l:TI):Prop:=∀i,i<l.length->∃g o,a=some ⟨g,o,none⟩/\g<w.heap.size/\w.cell? ⟨g,o+i,none⟩=some (.int .i64 (l.getD i 0))
def Ft.below{w s:TW}{a:TA}{z:TI}(h:Ft w a z)(b:Bl w s):Ft s a z:=fun i f=>by
 obtain⟨g,o,e,c,j⟩:=h i f;exact⟨g,o,e,Brs c b.size,by rw[b.cell (p:=.a g (o+i)) c];exact j⟩
structure Cw.Ok(k:Cw):Prop where
 tr:Dy k.w0 k.tg k.T
 tl:k.T.length<=1000
 fl:Lx k.w0 k.bf (.slice k.ya k.lf.length k.yc) k.lf
 f14:k.lf.length<=14
 ff:∀p∈k.lf,p.2.length<=10
 ms:Eb k.wE k.bm (.slice k.ma k.lms.length k.mc) k.lms
 ml:k.lms.length<=1000
 cd:∀p∈k.lms,p.1.code.length<=1000/\∀x∈p.1.code,0<=x/\x<=255
 ps:∀p∈k.lms,p.1.params.length<=10
 hn:∀p∈k.lms,p.1.handlers.length<=1000/\∀h∈p.1.handlers,0<=h.target/\h.target<=1000
 ins:Ft k.wE k.ia k.ins
 il:k.ins.length<=1000
 dep:1<=k.depth/\k.depth<=12
 rm:0<=k.room/\k.room<=30
 fu:0<=k.fuel/\k.fuel<=3000
 tB:k.tg≠k.B/\k.tg≠k.ob
 fB:∀j,(Value.slice k.ya k.lf.length k.yc).ownBlock=some j->j≠k.B/\j≠k.ob
 fy:∀p∈k.lf,∀j,p.1.ownBlock=some j->j≠k.B/\j≠k.ob
 sz:k.wE.heap.size<=k.w0.heap.size
 Bs:k.B<k.w0.heap.size/\k.ob<k.w0.heap.size/\k.wE.heap.size<=k.B/\k.wE.heap.size<=k.ob
structure Dd where
 oa:Option Addr
 oc:Nat
 wa:Option Addr
 wc:Nat
 xa:Option Addr
 xc:Nat
 ov:List Value
def Iv (k:Cw)(read ol:Nat)(v:Dd):List Value :=
 [.slice k.ca k.cn k.cc,.slice k.ma k.lms.length k.mc,.slice (some ⟨k.tg,0,none⟩) k.T.length k.tc,.slice k.ya k.lf.length k.yc,.int .i64 k.entry,.slice k.ia k.ins.length k.ic,.int .i64 k.room,.int .i64 k.depth,.int .i64 k.fuel,.int .i64 (read:Int),.slice v.oa ol v.oc,.int .i64 k.room]
def Gy (v:Dd)(wl xl:Nat)(ended:Bool)(status value:Int)(steps:Nat):List Value :=
 [.slice v.wa wl v.wc,.bool ended,.slice v.xa xl v.xc,.int .i64 status,.int .i64 value,.int .i64 (steps:Int)]
def Ij(k:Cw)(r o:Nat)(v:Dd):(Iv k r o v).length=12:=rfl
def Lc(v:Dd)(b c:Nat)(e:Bool)(s x:Int)(f:Nat):(Gy v b c e s x f).length=6:=rfl
structure Dq(k:Cw)(O:List (Int × List Int))(W:List Bi)(X:List Int)(v:Dd)(w:World):Prop where
 objs:w.ownsRow k.wE.heap.size 215 2 (.slice v.oa O.length v.oc) O.length (ocells O v.ov)
 ovl:v.ov.length=O.length
 obk:∀j,(Value.slice v.oa O.length v.oc).ownBlock=some j->j=k.ob\/k.w0.heap.size<=j
 flds:∀i,i<O.length->De w k.w0.heap.size (v.ov.getD i (.slice none 0 0)) (O.getD i (0,[])).2
 wait:w.ownsRow k.w0.heap.size 152 20 (.slice v.wa W.length v.wc) W.length (W.flatMap Bi.cells)
 wwf:∀c∈W,Dz c
 out:De w k.w0.heap.size (.slice v.xa X.length v.xc) X
 nd:((Value.slice v.xa X.length v.xc::v.ov).filterMap Value.ownBlock).Nodup
 keep:∀j,j<k.w0.heap.size->j≠k.B->j≠k.ob->w.heap[j]?=k.w0.heap[j]?
 low:Below k.wE.heap.size k.wE w
 szs:k.w0.heap.size<=w.heap.size
structure Bw(k:Cw)(S:Bo)(v:Dd)(w:World):Prop where
 blk:Mid w k.B 156 (Iv k S.read S.objs.length v) S.now.cells (Gy v S.wait.length S.out.length S.ended S.status S.value S.steps)
 wf:Dz S.now
 rows:Dq k S.objs S.wait S.out v w
def Fl{w:TW}{u b t n:Nat}{j:TypeId}{l:TX}{e cs:TV}{B:Nat}{m:Nat×Nat}(h:w.ownsRow u b t l n e)(p:w.heap[B]?=some (.cells cs.toArray j m))(q:b≠j):∀c,l.ownBlock=some c->c≠B:=by
 intro c f s;obtain⟨_,⟨rfl,_⟩|⟨g,v,z,rfl,_,i,_⟩⟩:=h
 ·simp[Value.ownBlock]at f
 simp only[Value.ownBlock,Option.some.injEq]at f;subst f s;rw[p]at i;simp only[Option.some.injEq,Obj.cells.injEq]at i;exact q i.2.1.symm
def Fz{w s:TW}{u b t n:Nat}{l:TX}{e:TV}(h:w.ownsRow u b t l n e)(i:∀j,l.ownBlock=some j->s.heap[j]?=w.heap[j]?):s.ownsRow u b t l n e:=by
 obtain⟨c,m|⟨g,p,q,f,v,z,r⟩⟩:=h
 ·exact⟨c,.inl m⟩
 exact⟨c,.inr ⟨g,p,q,f,v,(i g (by rw[f];rfl)).trans z,r⟩⟩
def Dq.gr{k:Cw}{A:List (Int×List Int)}{p:List Bi}{z:TI}{v:Dd}{w s:TW}(h:Dq k A p z v w)(F:k.Ok){e:TV}(G:w.heap[k.B]?=some (.cells e.toArray 156 (0,0)))(f:Gr k.B w s):Dq k A p z v s:=by
 have l:∀{b c q n:Nat}{u:TX}{t:TV},w.ownsRow b c q u n t->c≠156->s.ownsRow b c q u n t:=fun m I =>
  Fz m (fun j g=>f.blk (m.lt j g).2 (Fl m G I j g))
 refine⟨l h.objs Fm,h.ovl,h.obk,fun i J=>l (h.flds i J) Fm,l h.wait Fm,h.wwf,l h.out Fm,h.nd,fun j C D K=>?_,?_,Br5 h.szs f.size⟩
 ·rw[f.blk (Brs C h.szs) D];exact h.keep j C D K
 exact⟨(World.grownBy.os f).trans h.low.os,(World.grownBy.tape f).trans h.low.tape,(World.grownBy.output f).trans h.low.output,Br5 h.low.size f.size,
  fun j g=>(f.blk (Brs g h.low.size) (by have:=F.Bs;omega)).trans (h.low.block j g)⟩
def Bw.now{k:Cw}{S:Bo}{v:Dd}{w s:TW}(h:Bw k S v w)(b:k.Ok)(e:Gr k.B w s){c:Bi}(f:Dz c) (g:Mid s k.B 156 (Iv k S.read S.objs.length v) c.cells (Gy v S.wait.length S.out.length S.ended S.status S.value S.steps)):Bw k (S.withNow c) v s :=
 ⟨g,f,h.rows.gr b h.blk e⟩
structure Bpp(k:Cw)(S:Bo)(v:Dd)(w:World):Prop where
 c0:w.cell? ⟨k.B,0,none⟩=some (.slice k.ca k.cn k.cc)
 c1:w.cell? ⟨k.B,1,none⟩=some (.slice k.ma k.lms.length k.mc)
 c2:w.cell? ⟨k.B,2,none⟩=some (.slice (some ⟨k.tg,0,none⟩) k.T.length k.tc)
 c3:w.cell? ⟨k.B,3,none⟩=some (.slice k.ya k.lf.length k.yc)
 c4:w.cell? ⟨k.B,4,none⟩=some (.int .i64 k.entry)
 c5:w.cell? ⟨k.B,5,none⟩=some (.slice k.ia k.ins.length k.ic)
 c6:w.cell? ⟨k.B,6,none⟩=some (.int .i64 k.room)
 c7:w.cell? ⟨k.B,7,none⟩=some (.int .i64 k.depth)
 c8:w.cell? ⟨k.B,8,none⟩=some (.int .i64 k.fuel)
 c9:w.cell? ⟨k.B,9,none⟩=some (.int .i64 (S.read:Int))
 c10:w.cell? ⟨k.B,10,none⟩=some (.slice v.oa S.objs.length v.oc)
 c11:w.cell? ⟨k.B,11,none⟩=some (.int .i64 k.room)
 c12:w.cell? ⟨k.B,12,none⟩=some (.int .i64 S.now.meth)
 c13:w.cell? ⟨k.B,13,none⟩=some (.int .i64 (S.now.pos:Int))
 c14:w.cell? ⟨k.B,14,none⟩=some (.int .i64 (S.now.next:Int))
 c32:w.cell? ⟨k.B,32,none⟩=some (.slice v.wa S.wait.length v.wc)
 c33:w.cell? ⟨k.B,33,none⟩=some (.bool S.ended)
 c34:w.cell? ⟨k.B,34,none⟩=some (.slice v.xa S.out.length v.xc)
 c35:w.cell? ⟨k.B,35,none⟩=some (.int .i64 S.status)
 c36:w.cell? ⟨k.B,36,none⟩=some (.int .i64 S.value)
 c37:w.cell? ⟨k.B,37,none⟩=some (.int .i64 (S.steps:Int))
 fr:∀j,w.frozen? ⟨k.B,j,none⟩=false
def Mid.tail{w:TW}{u:Nat}{j:TypeId}{e J b:TV}(h:Mid w u j e J b):Mid w u j (e++J) b []:=by
 unfold Mid at h ⊢;rw[h];simp
def Mid.untail{w:TW}{u:Nat}{j:TypeId}{e J b:TV}(h:Mid w u j (e++J) b []):Mid w u j e J b:=by
 unfold Mid at h ⊢;rw[h];simp
def Mid.front{w:TW}{u:Nat}{j:TypeId}{e J b:TV}(h:Mid w u j e J b):Mid w u j [] e (J++b):=by
 unfold Mid at h ⊢;rw[h];simp
def Mid.unfront{w:TW}{u:Nat}{j:TypeId}{e J b:TV}(h:Mid w u j [] e (J++b)):Mid w u j e J b:=by
 unfold Mid at h ⊢;rw[h];simp
def Bw.sees{k:Cw}{S:Bo}{v:Dd}{w:TW}(h:Bw k S v w):Bpp k S v w:=by
 have f:=h.blk.front;have g:=h.blk.tail;have i:(Iv k S.read S.objs.length v++S.now.cells).length=32:=by rw[Ws,Ij,h.wf.len]
 have b:∀j,j<12->w.cell? (.a k.B j)=(Iv k S.read S.objs.length v)[j]?:=fun j c=>by
  have:=f.cell (o:=0) (j:=j) rfl (by rw[Ij];exact c);rw[Brz]at this;exact this
 have tl:∀j,j<6->w.cell? (.a k.B (32+j))=(Gy v S.wait.length S.out.length S.ended S.status S.value S.steps)[j]?:=fun j c=>g.cell i (by rw[Lc];exact c);have e:=h.blk.sees (o:=12) rfl h.wf;exact⟨b 0 Ck,b 1 Ck,b 2 Ck,b 3 Ck,b 4 Ck,b 5 Ck,b 6 Ck,b 7 Ck,b 8 Ck,b 9 Ck,b 10 Ck,b 11 Ck,e.m,e.p,e.n,
  tl 0 Ck,tl 1 Ck,tl 2 Ck,tl 3 Ck,tl 4 Ck,tl 5 Ck,fun j=>h.blk.free j⟩
def Bw.setPost{k:Cw}{S:Bo}{v:Dd}{w:TW}(h:Bw k S v w)(f:k.Ok){j:Nat}(g:j<6)(u:TX){b:Bo}{c:Dd}(e:b.now=S.now) (i:Iv k b.read b.objs.length c=Iv k S.read S.objs.length v)(l:(Gy v S.wait.length S.out.length S.ended S.status S.value S.steps).set j u=Gy c b.wait.length b.out.length b.ended b.status b.value b.steps) (m:Dq k b.objs b.wait b.out c w):Bw k b c (w.setCell (.a k.B (32+j)) u):=by
 have p:(Iv k S.read S.objs.length v++S.now.cells).length=32:=by rw[Ws,Ij,h.wf.len]
 refine⟨?_,by rw[e];exact h.wf,m.gr f h.blk ((Gr.refl _ _).setB _)⟩;rw[i,e,<- l];exact(h.blk.tail.set p (by rw[Lc];exact g) u).untail
def Bw.setPre{k:Cw}{S:Bo}{v:Dd}{w:TW}(h:Bw k S v w)(f:k.Ok){j:Nat}(g:j<12)(u:TX){b:Bo}{c:Dd}(e:b.now=S.now) (i:(Iv k S.read S.objs.length v).set j u=Iv k b.read b.objs.length c)(l:Gy c b.wait.length b.out.length b.ended b.status b.value b.steps=Gy v S.wait.length S.out.length S.ended S.status S.value S.steps) (m:Dq k b.objs b.wait b.out c w):Bw k b c (w.setCell (.a k.B j) u):=by
 refine⟨?_,by rw[e];exact h.wf,m.gr f h.blk ((Gr.refl _ _).setB _)⟩;have:=h.blk.front.set (o:=0) (j:=j) rfl (by rw[Ij];exact g) u;rw[Brz]at this;rw[<- i,e,l];exact this.unfront
def Bla{k:Cw}{w:TW}{e J:TV}{c:Bi}(f:Mid w k.B 156 e c.cells J)(h:e.length=12)(i:Dz c)(l:k.Ok){j:Nat}(m:j<12)(u:TX){Y:Bo}{b:Dd}(g:Y.now=c) (p:e.set j u=Iv k Y.read Y.objs.length b)(q:Gy b Y.wait.length Y.out.length Y.ended Y.status Y.value Y.steps=J)(s:Dq k Y.objs Y.wait Y.out b w):Bw k Y b (w.setCell (.a k.B j) u):=by
 refine⟨?_,by rw[g];exact i,s.gr l f ((Gr.refl _ _).setB _)⟩;have:=f.front.set (o:=0) (j:=j) rfl (by rw[h];exact m) u;rw[Brz]at this;rw[<- p,g,q];exact this.unfront
def Sj{k:Cw}{w:TW}{e J:TV}{b:Bi}(c:Mid w k.B 156 e b.cells J)(h:e.length=12)(s:J.length=6)(f:Dz b)(i:k.Ok){j:Nat}(t:j<6)(u:TX){S':Bo}{v':Dd}(g:S'.now=b) (l:Iv k S'.read S'.objs.length v'=e)(m:J.set j u=Gy v' S'.wait.length S'.out.length S'.ended S'.status S'.value S'.steps)(p:Dq k S'.objs S'.wait S'.out v' w):Bw k S' v' (w.setCell (.a k.B (32+j)) u):=by
 refine⟨?_,by rw[g];exact f,p.gr i c ((Gr.refl _ _).setB _)⟩;have q:(e++b.cells).length=32:=by rw[Ws,h,f.len]
 rw[l,g,<- m];exact(c.tail.set q Ck u).untail
def Bw.gr{k:Cw}{S:Bo}{v:Dd}{w s:TW}(h:Bw k S v w)(c:k.Ok)(b:Bl w s):Bw k S v s :=
 h.now c (Gr.of_below (Gr.refl _ _) b) h.wf (h.blk.below b)
def Dq.tree{k:Cw}{A:List (Int×List Int)}{c:List Bi}{z:TI}{v:Dd}{w:TW}(h:Dq k A c z v w)(b:k.Ok):Dy w k.tg k.T:=by
 have e:=h.keep k.tg b.tr.1 b.tB.1 b.tB.2;exact⟨Brs b.tr.1 h.szs,fun i f=>by rw[Brr (a:=⟨k.tg,i,none⟩) e];exact b.tr.2 i f⟩
def Dq.mths{k:Cw}{A:List (Int×List Int)}{b:List Bi}{z:TI}{v:Dd}{w:TW}(h:Dq k A b z v w)(c:k.Ok):Eb w k.bm (.s k.ma k.lms.length k.mc) k.lms :=
 c.ms.kp (Kp.of_below (e:=none) h.low) Fm Fm Fm Fm Fm
def Dq.ints{k:Cw}{A:List (Int×List Int)}{b:List Bi}{z:TI}{v:Dd}{w:TW}(h:Dq k A b z v w)(c:k.Ok):Ft w k.ia k.ins:=c.ins.below h.low
end Go.Proofs.YtpcgnjolfahacaaGreat
