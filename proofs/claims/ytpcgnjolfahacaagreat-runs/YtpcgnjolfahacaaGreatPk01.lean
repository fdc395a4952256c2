/- the proof's parts -/
import Derived.Test.YtpcgnjolfahacaaGreatPk00
set_option maxRecDepth 100000
set_option maxHeartbeats 40000000
set_option linter.unusedVariables false
set_option linter.unusedSimpArgs false
set_option linter.defProp false
namespace Go.Proofs.YtpcgnjolfahacaaGreat
open Go.RowKit Go.Proofs.Tryz
namespace Rf
def Zb(s:TB)(p:Nat):(Rd.ty s ⟨p,true⟩).2.bad=true:=by
 unfold Rd.ty;obtain⟨q,b⟩:=Df _ (Fw s p);simp only;rw[b];exact Fw s q
def Bi0{s:TB}{i:Int}(h:0<=i)(j:i<=(s.length:Int)):Lnk id s.length (Rd.ty s ⟨i.toNat,false⟩) (ty s i):=by
 unfold Rd.ty ty;rcases N7 h j with ⟨_,b,c,e⟩|⟨l,m⟩
 ·simp only at b c e;rw[c,e];rcases N7 (s:=s) (i:=i+1) Ck b with ⟨_,p,f,g⟩|⟨t,v⟩
  ·simp only at p f g
   left
   exact⟨Mc,Mc,by simp only[f,id_eq],by simp only[g];rw[show i+1+1=i+2 by omega]⟩
  simp only at t
  right
  exact⟨.inr Mc,v⟩
 simp only at l;obtain⟨q,z⟩:=Df _ m
 right
 refine⟨.inr Mc,?_⟩;simp only;rw[z];exact Fw s q
def rep_step{α:Type}{f:Int->α×Int}{k:Nat}{c B b:Int}{l:List α}{x:α}(h:rep f k c=(l,B))(g:0<=B)(e:f B=(x,b))(m:0<=b):rep f (k+1) c=(l++[x],b):=by
 unfold rep;rw[h];show (if B<0 then ([],-1) else if (f B).2<0 then ([],-1) else (l++[(f B).1],(f B).2))=_
 rw[Pk Ck,e];exact Pk Mc
def Boc(s:TB)(k:Nat)(i:Int)(b:0<=i):rep (ty s) k i=(tys s i k,i+2*(k:Int)):=by
 induction k with
 | zero=>simp[rep,tys]
 | succ k ih =>
  rw[rep_step ih Ck rfl Ck];refine Btq rfl ?_;simp only;omega
def Li(s:TB)(k p:Nat):(Rd.tys s k ⟨p,true⟩).2.bad=true:=Mq (Zb s) k p
def Xa{s:TB}{i:Int}(k:Nat)(c:0<=i)(e:i<=(s.length:Int)):Lnk id s.length (Rd.tys s k ⟨i.toNat,false⟩) (tys s i k,i+2*(k:Int)):=by
 have h:=Sn (g:=id) (fun i a b=>Bi0 (s:=s) a b) (Zb s) (fun i f=>.inr (by simp only[ty];omega)) k i c e;rw[Boc s k i c]at h;unfold Rd.tys;simpa[Lnk] using h
def Bga(s:TB)(p:Nat):(Rd.cls s ⟨p,true⟩).2.bad=true:=by
 unfold Rd.cls;obtain⟨q,b⟩:=Df _ (Fw s p);obtain⟨c,e⟩:=Df _ (Jh s 0 4 q);simp only;rw[b,e];exact Li s _ c
def Bpa(s:TB)(i:Int)(h:(s.length:Int)<i):(cls s i).2<0:=by
 unfold cls;rw[Kr Ck Ck,Th Ck]
 decide
def Bpb{s:TB}{i:Int}(l:0<=i)(m:i<=(s.length:Int)):Lnk id s.length (Rd.cls s ⟨i.toNat,false⟩) (cls s i):=by
 unfold Rd.cls cls;rcases N7 l m with ⟨_,e,f,g⟩|⟨p,t⟩
 ·simp only at e f g;simp only;rw[f,g];rcases Oa (s:=s) (i:=i+1) (a:=0) (b:=4) Ck e Ck with ⟨I,J,v⟩|⟨z,A⟩
  ·rw[Pk Ck,v];simp only;rcases Xa (s:=s) (i:=i+1+1) (cnt s (i+1) 0 4).toNat Ck Ck with ⟨_,B,h,j⟩|⟨C,D⟩
   ·simp only at B h j
    left
    rw[show i+1+1=i+2 by omega]at *;refine⟨Mc,Mc,?_,?_⟩
    ·simp only[h,id_eq]
    rw[j];simp only;congr 2;omega
   simp only at C
   right
   exact⟨.inr Mc,D⟩
  rw[Th z]
  right
  obtain⟨q,c⟩:=Df _ A;simp only;rw[c];exact⟨.inl Fm,Li s _ q⟩
 simp only at p;rw[Kr Ck Ck,Th Ck]
 right
 obtain⟨q,c⟩:=Df _ t;obtain⟨F,G⟩:=Df _ (Jh s 0 4 q);simp only;rw[c,G];exact⟨.inl Fm,Li s _ F⟩
def Bng(s:TB)(k:Nat)(i:Int)(b:0<=i):rep (fun i=>(at' s i,i+1)) k i=(codeTo s i k,i+(k:Int)):=by
 induction k with
 | zero=>simp[rep,codeTo]
 | succ k ih =>
  rw[rep_step ih Ck rfl Ck];refine Btq rfl ?_;simp only;omega
def Bnh{s:TB}{i:Int}(k:Nat)(c:0<=i)(e:i<=(s.length:Int)):Lnk id s.length (Rd.rep (Rd.nx s) k ⟨i.toNat,false⟩) (codeTo s i k,i+(k:Int)):=by
 have h:=Sn (g:=id) (F:=fun i=>(at' s i,i+1)) (fun i a b=>N7 (s:=s) a b) (Fw s) (fun i f=>.inr Mc) k i c e;rw[Bng s k i c]at h;simpa[Lnk] using h
def A7(s:TB)(p:Nat):(Rd.hnd s ⟨p,true⟩).2.bad=true:=by
 unfold Rd.hnd;obtain⟨q,b⟩:=Df _ (Fw s p);obtain⟨c,e⟩:=Df _ (Fw s q);obtain⟨f,g⟩:=Df _ (Fw s c);simp only;rw[b,e,g];exact Fw s f
def Bo4{s:TB}{i:Int}(f:0<=i)(t:i<=(s.length:Int)):Lnk id s.length (Rd.hnd s ⟨i.toNat,false⟩) (hndAt s i,i+4):=by
 by_cases h:i+4<=(s.length:Int)
 ·left
  unfold Rd.hnd hndAt;simp only;rw[Vz f Ck,Vz Ck Ck,Vz Ck Ck,Vz Ck Ck];refine⟨Ck,h,?_,?_⟩
  ·simp only[id_eq,show i+1+1=i+2 by omega,show i+2+1=i+3 by omega]
  simp only;congr 2;omega
 right
 refine⟨.inr Mc,?_⟩;unfold Rd.hnd;simp only;rcases N7 f t with ⟨_,g,_,j⟩|⟨_,v⟩
 ·simp only at g j;rw[j];rcases N7 (s:=s) (i:=i+1) Ck g with ⟨_,l,_,m⟩|⟨_,z⟩
  ·simp only at l m;rw[m];rcases N7 (s:=s) (i:=i+1+1) Ck l with ⟨_,A,_,p⟩|⟨_,B⟩
   ·simp only at A p;rw[p,Uy Ck]
   obtain⟨q,b⟩:=Df _ B;rw[b];exact Fw s q
  obtain⟨q,b⟩:=Df _ z;obtain⟨c,e⟩:=Df _ (Fw s q);rw[b,e];exact Fw s c
 obtain⟨q,b⟩:=Df _ v;obtain⟨c,e⟩:=Df _ (Fw s q);obtain⟨C,D⟩:=Df _ (Fw s c);rw[b,e,D];exact Fw s C
def Bo3(s:TB)(k:Nat)(i:Int)(b:0<=i):rep (fun i=>(hndAt s i,i+4)) k (i+1)=(hndTo s i k,i+1+4*(k:Int)):=by
 induction k with
 | zero=>simp[rep,hndTo]
 | succ k ih =>
  rw[rep_step ih Ck rfl Ck];refine Btq rfl ?_;simp only;omega
def Bdw(s:TB)(p:Nat):(Rd.hnds s ⟨p,true⟩).2.bad=true:=by
 unfold Rd.hnds;obtain⟨q,b⟩:=Df _ (Jh s 0 4 p);simp only;rw[b];exact Mq (A7 s) _ q
def Bm7{s:TB}{i:Int}(c:0<=i)(j:i<=(s.length:Int)):Lnk id s.length (Rd.hnds s ⟨i.toNat,false⟩) (hnds s i):=by
 unfold Rd.hnds hnds;rcases Oa (s:=s) (i:=i) (a:=0) (b:=4) c j Ck with ⟨B,C,l⟩|⟨m,p⟩
 ·rw[Pk Ck,l];simp only;have h:=Sn (g:=id) (F:=fun i=>(hndAt s i,i+4)) (fun i a b=>Bo4 (s:=s) a b) (A7 s) (fun i D=>.inr Mc) (cnt s i 0 4).toNat (i+1) Ck Ck;rw[Bo3 s _ i c]at h;rcases h with ⟨_,t,e,f⟩|⟨v,z⟩
  ·simp only at t e f
   left
   rw[Pk Ck];refine⟨Mc,Mc,?_,?_⟩
   ·simp only[e,id_eq,List.map_id_fun]
   rw[f];simp only;congr 2;omega
  simp only at v
  right
  rw[Th Ck];exact⟨.inl Fm,z⟩
 rw[Th m]
 right
 obtain⟨q,A⟩:=Df _ p;simp only;rw[A];exact⟨.inl Fm,Mq (A7 s) _ q⟩
def Bdi(s:TB)(L H:Int)(p:Nat):(Rd.mp s L H ⟨p,true⟩).2.bad=true:=by
 unfold Rd.mp;obtain⟨q,b⟩:=Df _ (Fw s p);obtain⟨c,e⟩:=Df _ (Li s L.toNat q);obtain⟨f,g⟩:=Df _ (Jh s 0 H c);simp only;rw[b,e,g];exact Li s _ f
def Bqi{s:TB}{c H i:Int}(Z:0<=c)(z:0<=i)(A:i<=(s.length:Int)):Lnk id s.length (Rd.mp s c H ⟨i.toNat,false⟩) (mp s c H i):=by
 unfold Rd.mp mp;rcases N7 z A with ⟨_,j,l,m⟩|⟨B,C⟩
 ·simp only at j l m;simp only;rw[l,m];rcases Xa (s:=s) (i:=i+1) c.toNat Ck j with ⟨_,f,p,t⟩|⟨D,F⟩
  ·simp only at f p t;rw[p,t];have G:i+1+2*((c.toNat:Nat):Int)=i+1+2*c:=Ck;rw[G]at f ⊢;rcases Oa (s:=s) (i:=i+1+2*c) (a:=0) (b:=H) Ck f Ck with ⟨c0,c1,I⟩|⟨J,K⟩
   ·rw[Pk Ck,I];simp only;rcases Xa (s:=s) (i:=i+1+2*c+1) (cnt s (i+1+2*c) 0 H).toNat Ck Ck with ⟨_,v,g2,g3⟩|⟨N,O⟩
    ·simp only at v g2 g3
     left
     have Q:i+1+2*c+1=i+2+2*c:=Ck;rw[Q]at v g2 g3 ⊢;refine⟨Mc,Mc,?_,?_⟩
     ·simp only[g2,id_eq]
     rw[g3];simp only;congr 2;omega
    simp only at N
    right
    exact⟨.inr Mc,O⟩
   rw[Th J]
   right
   obtain⟨q,e⟩:=Df _ K;simp only;rw[e];exact⟨.inl Fm,Li s _ q⟩
  simp only at D;rw[Kr Ck Ck,Th Ck]
  right
  obtain⟨q,e⟩:=Df _ F;obtain⟨g,h⟩:=Df _ (Jh s 0 H q);simp only;rw[e,h];exact⟨.inl Fm,Li s _ g⟩
 simp only at B;rw[Kr Ck Ck,Th Ck]
 right
 obtain⟨q,e⟩:=Df _ C;obtain⟨V,Y⟩:=Df _ (Li s c.toNat q);obtain⟨g,h⟩:=Df _ (Jh s 0 H V);simp only;rw[e,Y,h];exact⟨.inl Fm,Li s _ g⟩
def Bf1(s:TB)(L H:Int)(p:Nat):(Rd.mps s L H ⟨p,true⟩).2.bad=true:=by
 unfold Rd.mps;obtain⟨q,b⟩:=Df _ (Jh s 0 64 p);simp only;rw[b];exact Mq (Bdi s L H) _ q
def Bos{s:TB}{L H i:Int}(c:0<=L)(e:0<=i)(f:i<=(s.length:Int)):Lnk id s.length (Rd.mps s L H ⟨i.toNat,false⟩) (mps s i L H):=by
 unfold Rd.mps mps;rcases Oa (s:=s) (i:=i) (a:=0) (b:=64) e f Ck with ⟨t,v,j⟩|⟨l,m⟩
 ·rw[Pk Ck,j];simp only;have h:=Sn (g:=id) (fun i a b=>Bqi (s:=s) (H:=H) c a b) (Bdi s L H) (fun i z=>.inl (by unfold mp;rw[Kr Ck Ck,Th Ck];decide)) (cnt s i 0 64).toNat (i+1) Ck Ck;simpa[Lnk] using h
 rw[Th l]
 right
 obtain⟨q,p⟩:=Df _ m;simp only;rw[p];exact⟨.inl Fm,Mq (Bdi s L H) _ q⟩
def Bf0(s:TB)(p:Nat):(Rd.mth s ⟨p,true⟩).2.bad=true:=by
 unfold Rd.mth;obtain⟨e,f⟩:=Df _ (Fw s p);obtain⟨b,g⟩:=Df _ (Fw s e);obtain⟨h,i⟩:=Df _ (Jh s 0 4 b);obtain⟨j,l⟩:=Df _ (Li s (Rd.cn s 0 4 ⟨b,true⟩).1.toNat h);obtain⟨m,t⟩:=Df _ (Zb s j);obtain⟨v,z⟩:=Df _ (Jh s 0 8 m);obtain⟨c,A⟩:=Df _ (Jh s 0 8 v);obtain⟨B,C⟩:=Df _ (show (Rd.codes s ⟨c,true⟩).2.bad=true by
  unfold Rd.codes;obtain⟨q,D⟩:=Df _ (Jh s 1 120 c);simp only;rw[D];exact Mq (Fw s) _ q)
 obtain⟨F,G⟩:=Df _ (Bdw s B);simp only;rw[f,g,i,l,t,z,A,C,G];exact Bf1 s _ _ F
def Bk0(s:TB)(p:Nat):(Rd.codes s ⟨p,true⟩).2.bad=true:=by
 unfold Rd.codes;obtain⟨q,b⟩:=Df _ (Jh s 1 120 p);simp only;rw[b];exact Mq (Fw s) _ q
def g10 (s:TB)(l h:Int)(t:Rd.St):Rd.St:=(Rd.mps s l h t).2
def g9 (s:TB)(l h:Int)(t:Rd.St):Rd.St:=g10 s l h (Rd.hnds s t).2
def g8 (s:TB)(l h:Int)(t:Rd.St):Rd.St:=g9 s l h (Rd.codes s t).2
def g7 (s:TB)(l:Int)(t:Rd.St):Rd.St:=g8 s l (Rd.cn s 0 8 t).1 (Rd.cn s 0 8 t).2
def g6 (s:TB)(t:Rd.St):Rd.St:=g7 s (Rd.cn s 0 8 t).1 (Rd.cn s 0 8 t).2
def g5 (s:TB)(t:Rd.St):Rd.St:=g6 s (Rd.ty s t).2
def g4 (s:TB)(p:Int)(t:Rd.St):Rd.St:=g5 s (Rd.tys s p.toNat t).2
def g3 (s:TB)(t:Rd.St):Rd.St:=g4 s (Rd.cn s 0 4 t).1 (Rd.cn s 0 4 t).2
def g2 (s:TB)(t:Rd.St):Rd.St:=g3 s (Rd.nx s t).2
def Bhu(s:TB)(t:Rd.St):(Rd.mth s t).2=g2 s (Rd.nx s t).2:=by
 simp only[Rd.mth,g2,g3,g4,g5,g6,g7,g8,g9,g10]
def Bf7{F:TB}{c B:Int}{t:Rd.St}(b:t.bad=true):(g10 F c B t).bad=true:=by
 obtain⟨p,rfl⟩:=Df t b;exact Bf1 F c B p
def Bd2{F:TB}{c B:Int}{t:Rd.St}(b:t.bad=true):(g9 F c B t).bad=true:=by
 obtain⟨p,rfl⟩:=Df t b;exact Bf7 (Bdw F p)
def Bkl{F:TB}{c B:Int}{t:Rd.St}(b:t.bad=true):(g8 F c B t).bad=true:=by
 obtain⟨p,rfl⟩:=Df t b;exact Bd2 (Bk0 F p)
def Bkm{F:TB}{c:Int}{t:Rd.St}(b:t.bad=true):(g7 F c t).bad=true:=by
 obtain⟨p,rfl⟩:=Df t b;exact Bkl (Jh F 0 8 p)
def Bkn{F:TB}{t:Rd.St}(b:t.bad=true):(g6 F t).bad=true:=by
 obtain⟨p,rfl⟩:=Df t b;exact Bkm (Jh F 0 8 p)
def Bko{F:TB}{t:Rd.St}(b:t.bad=true):(g5 F t).bad=true:=by
 obtain⟨p,rfl⟩:=Df t b;exact Bkn (Zb F p)
def Bkp{F:TB}{c:Int}{t:Rd.St}(b:t.bad=true):(g4 F c t).bad=true:=by
 obtain⟨q,rfl⟩:=Df t b;exact Bko (Li F _ q)
def Bkq{F:TB}{t:Rd.St}(b:t.bad=true):(g3 F t).bad=true:=by
 obtain⟨p,rfl⟩:=Df t b;exact Bkp (Jh F 0 4 p)
def Bqo{F:TB}{t:Rd.St}(b:t.bad=true):(g2 F t).bad=true:=by
 obtain⟨p,rfl⟩:=Df t b;exact Bkq (Fw F p)
def hnds_le(s:TB)(i:Int):(hnds s i).2<=(s.length:Int):=by
 unfold hnds
 split
 ·simp only;omega
 split
 ·simp only;omega
 simp only;omega
def Bor{s:TB}{i:Int}(h0:0<=i)(h1:i<=(s.length:Int)):Lnk Mth.m s.length (Rd.mth s ⟨i.toNat,false⟩) (mth s i):=by
 -- where the document's reader has nothing, it is enough that the program's is bad
 have c:∀x:Mth×Int,x.2<0->(Rd.mth s ⟨i.toNat,false⟩).2.bad=true->Lnk Mth.m s.length (Rd.mth s ⟨i.toNat,false⟩) x:=fun x a b=>.inr ⟨.inl a,b⟩;rcases N7 h0 h1 with ⟨_,a1,a2,g⟩|⟨b0,h⟩
 rotate_left
 ·simp only at b0;refine c _ ?_ (Bqo h);unfold mth;simp only;rw[Kr Ck Ck,Th Ck]
  decide
 simp only at a1 a2 g;rcases N7 (s:=s) (i:=i+1) Ck a1 with ⟨_,h,b2,l⟩|⟨c0,c1⟩
 rotate_left
 ·simp only at c0;refine c _ ?_ ?_
  ·unfold mth;simp only;rw[Kr Ck Ck,Th Ck]
   decide
  rw[Bhu,g];exact Bkq c1
 simp only at h b2 l;rw[show i+1+1=i+2 by omega]at h l;rcases Oa (s:=s) (i:=i+2) (a:=0) (b:=4) Ck h Ck with ⟨c0,c1,F⟩|⟨G,e⟩
 rotate_left
 ·refine c _ ?_ ?_
  ·unfold mth;simp only;rw[Th G]
   decide
  rw[Bhu,g];show (g3 s (Rd.nx s _).2).bad=true;rw[l];exact Bkp e
 rw[show i+2+1=i+3 by omega]at F;have e2:(Rd.mth s ⟨i.toNat,false⟩).2=g4 s (cnt s (i+2) 0 4) ⟨(i+3).toNat,false⟩:=by
  rw[Bhu,g];show g3 s (Rd.nx s _).2=_;rw[l];show g4 s (Rd.cn s 0 4 _).1 (Rd.cn s 0 4 _).2=_;rw[F]
 have cb:=cnt_bd s (i+2) 0 4 Ck
 -- the parameters
 rcases Xa (s:=s) (i:=i+3) (cnt s (i+2) 0 4).toNat Ck Ck with ⟨_,e,d2,t⟩|⟨G,e⟩
 rotate_left
 ·simp only at G;refine c _ ?_ ?_
  ·unfold mth;simp only;rw[Pk Ck,Kr (i:=i+3+2*cnt s (i+2) 0 4+2) Ck Ck,Th Ck]
   decide
  rw[e2];exact Bko e
 simp only at e d2 t;rw[show i+3+2*(((cnt s (i+2) 0 4).toNat:Nat):Int)=i+3+2*cnt s (i+2) 0 4 by omega]at e t;have e3:(Rd.mth s ⟨i.toNat,false⟩).2=g5 s ⟨(i+3+2*cnt s (i+2) 0 4).toNat,false⟩:=by
  rw[e2];show g5 s (Rd.tys s _ _).2=_;rw[t]
 generalize f:i+3+2*cnt s (i+2) 0 4=j at *;have j0:0<=j:=Ck;rcases Bi0 (s:=s) (i:=j) j0 e with ⟨_,v,f2,I⟩|⟨f0,v⟩
 rotate_left
 ·simp only[ty]at f0;refine c _ ?_ ?_
  ·unfold mth;simp only;rw[Pk Ck,f,Kr (i:=j+2) Ck Ck,Th Ck]
   decide
  rw[e3];exact Bkn v
 simp only[ty]at v f2 I;have J:(Rd.mth s ⟨i.toNat,false⟩).2=g6 s ⟨(j+2).toNat,false⟩:=by
  rw[e3];show g6 s (Rd.ty s _).2=_;rw[I]
 rcases Oa (s:=s) (i:=j+2) (a:=0) (b:=8) Ck v Ck with ⟨K,l1,z⟩|⟨K,l1⟩
 rotate_left
 ·refine c _ ?_ ?_
  ·unfold mth;simp only;rw[Pk Ck,f,Th K]
   decide
  rw[J];exact Bkm l1
 rw[show j+2+1=j+3 by omega]at z;rcases Oa (s:=s) (i:=j+3) (a:=0) (b:=8) Ck Ck Ck with ⟨k0,k1,N⟩|⟨k0,k1⟩
 rotate_left
 ·refine c _ ?_ ?_
  ·unfold mth;simp only;rw[Pk Ck,f,Pk Ck,Th k0]
   decide
  rw[J];show (g7 s (Rd.cn s 0 8 _).1 (Rd.cn s 0 8 _).2).bad=true;rw[z];exact Bkl k1
 rw[show j+3+1=j+4 by omega]at N;have C:(Rd.mth s ⟨i.toNat,false⟩).2=g8 s (cnt s (j+2) 0 8) (cnt s (j+3) 0 8) ⟨(j+4).toNat,false⟩:=by
  rw[J];show g7 s (Rd.cn s 0 8 _).1 (Rd.cn s 0 8 _).2=_;rw[z];show g8 s _ (Rd.cn s 0 8 _).1 (Rd.cn s 0 8 _).2=_;rw[N]
 rcases Oa (s:=s) (i:=j+4) (a:=1) (b:=120) Ck Ck Ck with ⟨n0,n1,O⟩|⟨n0,n1⟩
 rotate_left
 ·refine c _ ?_ ?_
  ·unfold mth;simp only;rw[Pk Ck,f,Pk Ck,Pk Ck,Th n0]
   decide
  rw[C];refine Bd2 ?_;unfold Rd.codes;obtain⟨q,hq⟩:=Df _ n1;simp only;rw[hq];exact Mq (Fw s) _ q
 rw[show j+4+1=j+5 by omega]at O;rcases Bnh (s:=s) (i:=j+5) (cnt s (j+4) 1 120).toNat Ck Ck with ⟨_,p,o2,Q⟩|⟨o0,p⟩
 rotate_left
 ·simp only at o0;refine c _ ?_ ?_
  ·unfold mth;simp only;rw[Pk Ck,f,Pk Ck,Pk Ck,Pk Ck,Th Ck]
   decide
  rw[C];refine Bd2 ?_;unfold Rd.codes;simp only;rw[O];exact p
 simp only at p o2 Q;rw[show j+5+(((cnt s (j+4) 1 120).toNat:Nat):Int)=j+5+cnt s (j+4) 1 120 by omega]at p Q;have V:Rd.codes s ⟨(j+4).toNat,false⟩=(codeTo s (j+5) (cnt s (j+4) 1 120).toNat,⟨(j+5+cnt s (j+4) 1 120).toNat,false⟩):=by
  unfold Rd.codes;simp only;rw[O];exact Btq o2 Q
 rcases Bm7 (s:=s) (i:=j+5+cnt s (j+4) 1 120) Ck p with ⟨p0,Y,p2,p3⟩|⟨p0,Y⟩
 rotate_left
 ·have a0:=hnds_le s (j+5+cnt s (j+4) 1 120);refine c _ ?_ ?_
  ·unfold mth;simp only;rw[Pk Ck,f,Pk Ck,Pk Ck,Pk Ck,Pk Ck,Th Ck]
   decide
  rw[C];show (g9 s _ _ (Rd.codes s _).2).bad=true;rw[V];exact Bf7 Y
 have hm:=Bos (s:=s) (L:=cnt s (j+2) 0 8) (H:=cnt s (j+3) 0 8) K p0 Y;have e6:(Rd.mth s ⟨i.toNat,false⟩).2=(Rd.mps s (cnt s (j+2) 0 8) (cnt s (j+3) 0 8) ⟨(hnds s (j+5+cnt s (j+4) 1 120)).2.toNat,false⟩).2:=by
  rw[C];show g9 s _ _ (Rd.codes s _).2=_;rw[V];show g10 s _ _ (Rd.hnds s _).2=_;simp only;rw[p3];rfl
 have hx:mth s i=(⟨⟨at' s i,at' s (i+1),tys s (i+3) (cnt s (i+2) 0 4).toNat,(at' s j,at' s (j+1)),cnt s (j+2) 0 8,cnt s (j+3) 0 8,codeTo s (j+5) (cnt s (j+4) 1 120).toNat,(hnds s (j+5+cnt s (j+4) 1 120)).1,(mps s (hnds s (j+5+cnt s (j+4) 1 120)).2 (cnt s (j+2) 0 8) (cnt s (j+3) 0 8)).1⟩,(hnds s (j+5+cnt s (j+4) 1 120)).2,(mps s (hnds s (j+5+cnt s (j+4) 1 120)).2 (cnt s (j+2) 0 8) (cnt s (j+3) 0 8)).2⟩,(mps s (hnds s (j+5+cnt s (j+4) 1 120)).2 (cnt s (j+2) 0 8) (cnt s (j+3) 0 8)).2):=by
  unfold mth;simp only;rw[Pk Ck,f,Pk Ck,Pk Ck,Pk Ck,Pk Ck,Pk Ck]
 rw[hx];rcases hm with ⟨Z,m1,m2,m3⟩|⟨Z,m1⟩
 ·left
  refine⟨Z,m1,?_,by rw[e6];exact m3⟩;have A:Rd.nx s ⟨i.toNat,false⟩=(at' s i,⟨(i+1).toNat,false⟩):=Btq a2 g;have B:Rd.nx s ⟨(i+1).toNat,false⟩=(at' s (i+1),⟨(i+2).toNat,false⟩):=Btq b2 l;have D:Rd.tys s (cnt s (i+2) 0 4).toNat ⟨(i+3).toNat,false⟩=(tys s (i+3) (cnt s (i+2) 0 4).toNat,⟨j.toNat,false⟩):=Btq d2 t;have E:Rd.ty s ⟨j.toNat,false⟩=((at' s j,at' s (j+1)),⟨(j+2).toNat,false⟩):=Btq f2 I;have P:Rd.hnds s ⟨(j+5+cnt s (j+4) 1 120).toNat,false⟩=((hnds s (j+5+cnt s (j+4) 1 120)).1,⟨(hnds s (j+5+cnt s (j+4) 1 120)).2.toNat,false⟩):=Btq p2 p3;simp only[Rd.mth,A,B,F,D,E,z,N,V,P];simp only[id_eq]at m2;rw[m2]
 right
 exact⟨Z,by rw[e6];exact m1⟩
def Boq(s:TB)(i:Int)(h:(s.length:Int)<i):(mth s i).2<0:=by
 unfold mth;simp only;rw[Kr Ck Ck,Th Ck]
 decide
def Bqr(s:TB)(b:Int)(p:Nat):(Rd.ex s b ⟨p,true⟩).bad=true:=by
 unfold Rd.ex
 split
 ·exact Fw s p
 rfl
def Bky{s:TB}{i b:Int}(c:0<=i)(f:i<=(s.length:Int))(g:0<=b):(at' s i=b/\i<(s.length:Int)/\Rd.ex s b ⟨i.toNat,false⟩=⟨(i+1).toNat,false⟩)\/(at' s i≠b/\(Rd.ex s b ⟨i.toNat,false⟩).bad=true):=by
 unfold Rd.ex;by_cases h:i<(s.length:Int)
 ·rw[Vz c h];by_cases e:at' s i=b;·left;rw[Th e];exact⟨e,h,rfl⟩
  right;rw[Pk e];exact⟨e,rfl⟩
 right
 rw[Uy Ck,at_out Ck];refine⟨Ck,?_⟩
 split<;>rfl
def fil_same(s:TB):((Rd.fil s ⟨0,false⟩).2.bad=false/\(Rd.fil s ⟨0,false⟩).2.pos=s.length<->(fil s).2.2=(s.length:Int))/\((fil s).2.2=(s.length:Int)->(Rd.fil s ⟨0,false⟩).1.classes=(fil s).1/\(Rd.fil s ⟨0,false⟩).1.methods=(fil s).2.1.map Mth.m):=by
 -- the stages of the program's reader
 have e:(Rd.fil s ⟨0,false⟩).2=(Rd.rep (Rd.mth s) (Rd.cn s 1 6 (Rd.rep (Rd.cls s) (Rd.cn s 0 6 (Rd.ex s 77 (Rd.ex s 83 ⟨0,false⟩))).1.toNat (Rd.cn s 0 6 (Rd.ex s 77 (Rd.ex s 83 ⟨0,false⟩))).2).2).1.toNat
   (Rd.cn s 1 6 (Rd.rep (Rd.cls s) (Rd.cn s 0 6 (Rd.ex s 77 (Rd.ex s 83 ⟨0,false⟩))).1.toNat (Rd.cn s 0 6 (Rd.ex s 77 (Rd.ex s 83 ⟨0,false⟩))).2).2).2).2:=by simp only[Rd.fil]
 have N:∀(k:Nat) (t:Rd.St),t.bad=true->(Rd.rep (Rd.mth s) k t).2.bad=true:=fun k t z=>by
  obtain⟨p,rfl⟩:=Df t z;exact Mq (Bf0 s) k p
 have B:∀(t:Rd.St),t.bad=true->(Rd.rep (Rd.mth s) (Rd.cn s 1 6 t).1.toNat (Rd.cn s 1 6 t).2).2.bad=true:=fun t z=>by
  obtain⟨p,rfl⟩:=Df t z;exact N _ _ (Jh s 1 6 p)
 have C:∀(k:Nat) (t:Rd.St),t.bad=true->(Rd.rep (Rd.cls s) k t).2.bad=true:=fun k t z=>by
  obtain⟨p,rfl⟩:=Df t z;exact Mq (Bga s) k p
 have f:(Rd.fil s ⟨0,false⟩).2.bad=true->(fil s).2.2≠(s.length:Int) ->
   ((Rd.fil s ⟨0,false⟩).2.bad=false/\(Rd.fil s ⟨0,false⟩).2.pos=s.length<->(fil s).2.2=(s.length:Int)) /\
   ((fil s).2.2=(s.length:Int)->(Rd.fil s ⟨0,false⟩).1.classes=(fil s).1/\(Rd.fil s ⟨0,false⟩).1.methods=(fil s).2.1.map Mth.m):=by
  intro a b;refine⟨⟨fun h=>?_,fun h=>absurd h b⟩,fun h=>absurd h b⟩;rw[a]at h;exact absurd h.1 Hd
 rcases Bky (s:=s) (i:=0) (b:=83) Ck Ck Ck with ⟨O,Q,a3⟩|⟨O,Q⟩
 rotate_left
 ·refine f ?_ ?_
  ·rw[e];refine B _ (C _ _ ?_);have h1:(Rd.ex s 83 ⟨0,false⟩).bad=true:=Q;obtain⟨p,hp⟩:=Df _ h1;rw[hp];obtain⟨q,D⟩:=Df _ (Bqr s 77 p);rw[D];exact Jh s 0 6 q
  unfold fil;rw[Th O];simp only;omega
 have c:Rd.ex s 83 ⟨0,false⟩=⟨(0+1:Int).toNat,false⟩:=a3;rcases Bky (s:=s) (i:=0+1) (b:=77) Ck Ck Ck with ⟨j,V,l⟩|⟨j,V⟩
 rotate_left
 ·refine f ?_ ?_
  ·rw[e,c];refine B _ (C _ _ ?_);obtain⟨q,D⟩:=Df _ V;rw[D];exact Jh s 0 6 q
  unfold fil;rw[Pk Ck,Th (show at' s 1≠77 from j)];simp only;omega
 rcases Oa (s:=s) (i:=0+1+1) (a:=0) (b:=6) Ck Ck Ck with ⟨F,Y,A⟩|⟨F,Y⟩
 rotate_left
 ·refine f ?_ ?_
  ·rw[e,c,l];exact B _ (C _ _ Y)
  unfold fil;rw[Pk Ck,Pk (show ¬at' s 1≠77 from fun h=>h j),Th (show cnt s 2 0 6<0 from F)];simp only;omega
 have a7:0<=cnt s 2 0 6:=F;have hc:=Sn (g:=id) (fun i a b=>Bpb (s:=s) a b) (Bga s) (fun i G=>.inl (Bpa s i G)) (cnt s 2 0 6).toNat 3 Ck Ck;rcases hc with ⟨Z,I,d2,J⟩|⟨Z,I⟩
 rotate_left
 ·refine f ?_ ?_
  ·rw[e,c,l,A];exact B _ I
  unfold fil;rw[Pk Ck,Pk (show ¬at' s 1≠77 from fun h=>h j),Pk (show ¬cnt s 2 0 6<0 by omega)];simp only
  split
  ·simp only;omega
  rw[Kr Ck Ck,Th Ck];simp only;omega
 have a5:(Rd.rep (Rd.cls s) (cnt s 2 0 6).toNat ⟨(3:Int).toNat,false⟩).1=(rep (cls s) (cnt s 2 0 6).toNat 3).1:=by simpa using d2
 rcases Oa (s:=s) (i:=(rep (cls s) (cnt s 2 0 6).toNat 3).2) (a:=1) (b:=6) Z I Ck with ⟨e0,e1,e2⟩|⟨e0,e1⟩
 rotate_left
 ·refine f ?_ ?_
  ·rw[e,c,l,A];show (Rd.rep (Rd.mth s) (Rd.cn s 1 6 (Rd.rep (Rd.cls s) (cnt s 2 0 6).toNat ⟨(3:Int).toNat,false⟩).2).1.toNat (Rd.cn s 1 6 (Rd.rep (Rd.cls s) (cnt s 2 0 6).toNat ⟨(3:Int).toNat,false⟩).2).2).2.bad=true;rw[J];exact N _ _ e1
  unfold fil;rw[Pk Ck,Pk (show ¬at' s 1≠77 from fun h=>h j),Pk (show ¬cnt s 2 0 6<0 by omega)];simp only;rw[Pk Ck,Th e0];simp only;omega
 have hm:=Sn (g:=Mth.m) (fun i a b=>Bor (s:=s) a b) (Bf0 s) (fun i G=>.inl (Boq s i G)) (cnt s (rep (cls s) (cnt s 2 0 6).toNat 3).2 1 6).toNat ((rep (cls s) (cnt s 2 0 6).toNat 3).2+1) Ck Ck;have a0:(Rd.fil s ⟨0,false⟩).2=(Rd.rep (Rd.mth s) (cnt s (rep (cls s) (cnt s 2 0 6).toNat 3).2 1 6).toNat ⟨((rep (cls s) (cnt s 2 0 6).toNat 3).2+1).toNat,false⟩).2:=by
  rw[e,c,l,A];show (Rd.rep (Rd.mth s) (Rd.cn s 1 6 (Rd.rep (Rd.cls s) (cnt s 2 0 6).toNat ⟨(3:Int).toNat,false⟩).2).1.toNat (Rd.cn s 1 6 (Rd.rep (Rd.cls s) (cnt s 2 0 6).toNat ⟨(3:Int).toNat,false⟩).2).2).2=_;rw[J,e2]
 have a6:∀v:List Mth×Int,rep (mth s) (cnt s (rep (cls s) (cnt s 2 0 6).toNat 3).2 1 6).toNat ((rep (cls s) (cnt s 2 0 6).toNat 3).2+1)=v->fil s=if v.2<0 then ([],[],-1) else ((rep (cls s) (cnt s 2 0 6).toNat 3).1,v.1,v.2):=by
  intro v a4;unfold fil;rw[Pk Ck,Pk (show ¬at' s 1≠77 from fun h=>h j),Pk (show ¬cnt s 2 0 6<0 by omega)];simp only;rw[Pk Ck,Pk Ck,a4]
 have K:=a6 _ rfl;generalize a4:rep (mth s) (cnt s (rep (cls s) (cnt s 2 0 6).toNat 3).2 1 6).toNat ((rep (cls s) (cnt s 2 0 6).toNat 3).2+1)=v at *;rcases hm with ⟨m0,m1,m2,m3⟩|⟨m0,m1⟩
 ·rw[Pk Ck]at K;rw[K,a0,m3];refine⟨⟨fun h=>?_,fun h=>?_⟩,fun _=>⟨?_,?_⟩⟩
  ·simp only at h ⊢;omega
  ·simp only at h ⊢;exact⟨trivial,Ck⟩
  ·have L:(Rd.fil s ⟨0,false⟩).1.classes=(Rd.rep (Rd.cls s) (Rd.cn s 0 6 (Rd.ex s 77 (Rd.ex s 83 ⟨0,false⟩))).1.toNat (Rd.cn s 0 6 (Rd.ex s 77 (Rd.ex s 83 ⟨0,false⟩))).2).1:=by simp only[Rd.fil]
   rw[L,c,l,A];exact a5
  have L:(Rd.fil s ⟨0,false⟩).1.methods=(Rd.rep (Rd.mth s) (Rd.cn s 1 6 (Rd.rep (Rd.cls s) (Rd.cn s 0 6 (Rd.ex s 77 (Rd.ex s 83 ⟨0,false⟩))).1.toNat (Rd.cn s 0 6 (Rd.ex s 77 (Rd.ex s 83 ⟨0,false⟩))).2).2).1.toNat
    (Rd.cn s 1 6 (Rd.rep (Rd.cls s) (Rd.cn s 0 6 (Rd.ex s 77 (Rd.ex s 83 ⟨0,false⟩))).1.toNat (Rd.cn s 0 6 (Rd.ex s 77 (Rd.ex s 83 ⟨0,false⟩))).2).2).2).1:=by simp only[Rd.fil]
  rw[L,c,l,A];show (Rd.rep (Rd.mth s) (Rd.cn s 1 6 (Rd.rep (Rd.cls s) (cnt s 2 0 6).toNat ⟨(3:Int).toNat,false⟩).2).1.toNat (Rd.cn s 1 6 (Rd.rep (Rd.cls s) (cnt s 2 0 6).toNat ⟨(3:Int).toNat,false⟩).2).2).1=_;rw[J,e2];exact m2
 refine f (by rw[a0];exact m1) ?_;rw[K]
 split
 ·simp only;omega
 simp only;omega
end Rf
def Iz (w:TW)(b:Nat)(v:TX)(l:List Rd.Hnd):Prop:=w.ownsRow b 164 4 v l.length (Ev l)
def Iz.kp{e:Option TypeId}{u:Nat}{l:TX}{c:List Rd.Hnd}{w s:TW}(h:Iz w u l c)(f:Kp e u w s)(g:some 164≠e):Iz s u l c:=Dc h f g
def Iz.mono{u b':Nat}{l:TX}{c:List Rd.Hnd}{w:TW}(h:Iz w u l c)(e:b'<=u):Iz w b' l c:=D6 h e
def Hm (w:TW)(b:Nat)(v:TX)(l:List (Rd.Cls × Value)):Prop :=
 w.ownsRow b 225 2 v l.length (Jt l)/\∀p∈l,Cq w b p.2 p.1.fields
def Hm.kp{u:Nat}{l:TX}{Q:List (Rd.Cls×Value)}{w s:TW}(h:Hm w u l Q){e:Option TypeId}(c:Kp e u w s)(f:some 225≠e)(g:some 31≠e):Hm s u l Q :=
 ⟨Dc h.1 c f,fun p i=>(h.2 p i).kp c g⟩
def Hm.mono{u b':Nat}{l:TX}{Q:List (Rd.Cls×Value)}{w:TW}(h:Hm w u l Q)(c:b'<=u):Hm w b' l Q:=⟨D6 h.1 c,fun p e=>(h.2 p e).mono c⟩
def K4 (w:TW)(b:Nat)(v:TX)(l:List (Rd.Mp × Value × Value)):Prop :=
 w.ownsRow b 168 3 v l.length (Rt l)/\∀p∈l,Cq w b p.2.1 p.1.locals/\Cq w b p.2.2 p.1.stack
def K4.kp{u:Nat}{l:TX}{c:List (Rd.Mp×Value×Value)}{w s:TW}(h:K4 w u l c){e:Option TypeId}(f:Kp e u w s)(j:some 168≠e)(g:some 31≠e):K4 s u l c :=
 ⟨Dc h.1 f j,fun p i=>⟨(h.2 p i).1.kp f g,(h.2 p i).2.kp f g⟩⟩
def K4.mono{u b':Nat}{l:TX}{c:List (Rd.Mp×Value×Value)}{w:TW}(h:K4 w u l c)(e:b'<=u):K4 w b' l c:=⟨D6 h.1 e,fun p f=>⟨(h.2 p f).1.mono e,(h.2 p f).2.mono e⟩⟩
def Blf (w:TW)(b:Nat)(v:TX)(ms:List Rd.Mp):Prop:=∃l,l.map Prod.fst=ms/\K4 w b v l
structure K0 where
 params:Value
 code:ByteArray
 handlers:Value
 maps:Value
def Ly (x:Rf.Mth)(u:K0):List Value :=
 [.int .i64 x.m.cl,.int .i64 x.m.name,u.params,.int .i64 x.m.result.1,.int .i64 x.m.result.2,.int .i64 x.m.locals,.int .i64 x.m.stack,.string u.code,u.handlers,u.maps,.int .i64 x.mapsAt,.int .i64 x.fin]
def Pn (w:TW)(b:Nat)(x:Rf.Mth)(u:K0):Prop :=
 Cq w b u.params x.m.params/\u.code.data.toList.map (fun c=>(c.toNat:Int))=x.m.code/\Iz w b u.handlers x.m.handlers/\Blf w b u.maps x.m.maps
def Pn.kp{u:Nat}{x:Rf.Mth}{g:K0}{w s:TW}(h:Pn w u x g){e:Option TypeId}(i:Kp e u w s)(j:some 31≠e)(m:some 164≠e)(p:some 168≠e):Pn s u x g:=by
 obtain⟨a,c,d,l,q,f⟩:=h;exact⟨a.kp i j,c,d.kp i m,l,q,f.kp i p j⟩
def Pn.mono{u b':Nat}{x:Rf.Mth}{e:K0}{w:TW}(h:Pn w u x e)(g:b'<=u):Pn w b' x e:=by
 obtain⟨a,c,d,l,i,f⟩:=h;exact⟨a.mono g,c,d.mono g,l,i,f.mono g⟩
def Oh (l:List (Rf.Mth × K0)):List Value:=l.flatMap fun x=>Ly x.1 x.2
def Bbz(l:List (Rf.Mth×K0))(x:Rf.Mth×K0):Oh (l++[x])=Oh l++Ly x.1 x.2:=by simp[Oh]
def Ks (w:TW)(b:Nat)(v:TX)(l:List (Rf.Mth × K0)):Prop :=
 w.ownsRow b 109 12 v l.length (Oh l)/\∀p∈l,Pn w b p.1 p.2
def Ks.kp{u:Nat}{l:TX}{c:List (Rf.Mth×K0)}{w s:TW}(h:Ks w u l c){e:Option TypeId}(f:Kp e u w s)(g:some 109≠e)(i:some 31≠e)(j:some 164≠e)(m:some 168≠e):Ks s u l c :=
 ⟨Dc h.1 f g,fun p q=>(h.2 p q).kp f i j m⟩
def Ks.mono{u b':Nat}{l:TX}{c:List (Rf.Mth×K0)}{w:TW}(h:Ks w u l c)(e:b'<=u):Ks w b' l c:=⟨D6 h.1 e,fun p f=>(h.2 p f).mono e⟩
def Ry{s:ByteArray}{i:Nat}(h:i<s.size):Rf.at' s.data.toList (i:Int)=(s[i].toNat:Int):=by
 have b:i<s.data.toList.length:=by simpa using h
 have e:s.data.toList[i]?.getD 0=s[i]:=by rw[Brl b];rfl
 unfold Rf.at';rw[Pk Ck,Pk Ck,Brx,e]
def Ge(s:ByteArray)(i:Int)(w:TW)(g:s.size<=maxLen):Calls prog 135 #[.string s,.i i] w fun e b=>e=.r (.i (Rf.at' s.data.toList i))/\w=b:=by
 have h:s.data.toList.length=s.size:=Hd;by_cases c:i<0
 ·have e:Rf.at' s.data.toList i = -1:=by unfold Rf.at';rw[Th c]
  rw[e];go_in;go_wp2;go_ret;exact⟨rfl,rfl⟩
 by_cases j:(s.size:Int)<=i;·rw[Rf.at_out Ck];go_in;go_wp2;go_ret;exact⟨rfl,rfl⟩
 obtain⟨k,rfl⟩:=Brp (show 0<=i by omega);have f:k<s.size:=Ck;rw[Ry f];go_in;go_wp2;go_ret;exact⟨Bfw (Bag _),rfl⟩
def Dx(s:ByteArray)(i b c:Int)(w:TW)(f:s.size<=maxLen):Calls prog 136 #[.string s,.i i,.i b,.i c] w fun e m=>e=.r (.i (Rf.cnt s.data.toList i b c))/\w=m:=by
 unfold Rf.cnt;generalize p:Rf.at' s.data.toList i=r;have g:=Bc p;by_cases h:r<b
 ·rw[Th h];go_in;go_wp2_with (go_at_call 135;refine(Ge s i _ f).mono ?_;rw[Ba g];rintro e j ⟨rfl,rfl⟩)
  go_ret;exact⟨rfl,rfl⟩
 rw[Pk h];by_cases l:c<r
 ·rw[Th l];go_in;go_wp2_with (go_at_call 135;refine(Ge s i _ f).mono ?_;rw[Ba g];rintro e j ⟨rfl,rfl⟩)
  go_ret;exact⟨rfl,rfl⟩
 rw[Pk l];go_in;go_wp2_with (go_at_call 135;refine(Ge s i _ f).mono ?_;rw[Ba g];rintro e j ⟨rfl,rfl⟩)
 go_ret;exact⟨rfl,rfl⟩
def Mx(s:TB)(i:Int)(n:Nat):(Rf.tys s i n).length=n:=by
 induction n with
 | zero=>rfl
 | succ k ih=>simp[Rf.tys,ih]
def J8(s:ByteArray)(i n:Int)(w:TW)(g:s.size<=maxLen)(a0:0<=i)(a1:i<=1000000)(a2:0<=n)(a3:n<=255):Calls prog 198 #[.string s,.i i,.i n] w fun e h => ∃a c,e=.r (.s a n.toNat c)/\Cq h w.heap.size (.s a n.toNat c) (Rf.tys s.data.toList i n.toNat)/\Bl w h:=by
 obtain⟨t,z,A,B,C⟩:=Bsa Tryz.infoType;go_in;go_wp2
 go_loopw [7,8] (fun v j wr=>∃k:Nat,(k:Int)<=n/\j=.i k/\wr.ownsRow w.heap.size 31 2 v k (Bp (Rf.tys s.data.toList i k))/\Bl w wr)
  (fun _ j _=>n.toNat-(intOf j).toNat)
 case atStart=>exact⟨0,Ck,rfl,Brw _ _ _ _,Brm _ _⟩
 case round=>
  obtain⟨k,hk,rfl,b,f⟩:=hrel;have D:=f.size;by_cases a4:(k:Int)<n
  ·generalize F:Rf.tys s.data.toList i k=p at *;generalize l:Rf.at' s.data.toList (i+2*(k:Int))=x at *;generalize m:Rf.at' s.data.toList (i+2*(k:Int)+1)=y at *;have G:Hid (Rf.tys s.data.toList i (k+1)=p++[(x,y)]):=by unfold Hid;rw[Rf.tys,F,l,m]
   have I:=Bc l;have J:=Bc m;go_wp2_with fail;refine(Ge s (i+2*(k:Int)) _ g).mono ?_;rw[Ba I];rintro e K ⟨rfl,rfl⟩;go_wp2_with fail;refine(Ge s (i+2*(k:Int)+1) _ g).mono ?_;rw[Ba J];rintro e K ⟨rfl,rfl⟩;go_wp2_with (at_builtin;refine Br3 _ rfl _ _ 105 rfl w.heap.size 31 t _ 2 16 Bsk z A B C rfl Fm _ _ _ rfl (b.alloc _) ⟨wr.heap.size,0,none⟩ 1 1 [.i x,.i y] rfl rfl ?c1 ?c2 ?c3 ?c4 ?c5 ?_)
   case c1=>exact Dh _ _ _ _ rfl
   case c2=>intro u q;simp at q;rcases q with rfl|rfl<;>rfl
   case c3=>unfold maxLen;omega
   case c4=>omega
   case c5=>simp;omega
   intro L N O Q _;have V:N.ownsRow w.heap.size 31 2 L (k+1) (Bp (Rf.tys s.data.toList i (k+1))):=by
    rw[Ba G,Uf];exact O
   have Y:=(f.alloc D (O7 x y)).grown Q Fr (fun j Z=>(b.lt j Z).1);go_wp2;go_roundw
   case rel=>exact⟨k+1,Ck,Mg,V,Y⟩
   case measure=>simp[intOf];omega
  obtain rfl:k=n.toNat:=Ck;obtain⟨va,vc,rfl⟩:=Bh b;go_wp2;go_ret;refine⟨_,_,rfl,?_,f⟩;unfold Cq;rw[Mx];exact b
def Zk(s:ByteArray)(i:Int)(w:TW)(b:s.size<=maxLen)(F:0<=i)(G:i<=100000):Calls prog 137 #[.string s,.i i] w fun e j => ∃x a n c,e=.r (.tuple #[.agg #[.i x,.s a n c],.i (Rf.cls s.data.toList i).2])/\(0<=(Rf.cls s.data.toList i).2->x=(Rf.cls s.data.toList i).1.above/\Cq j w.heap.size (.s a n c) (Rf.cls s.data.toList i).1.fields)/\Bl w j:=by
 unfold Rf.cls;generalize l:Rf.cnt s.data.toList (i+1) 0 4=r;have m:=Rf.cnt_bd s.data.toList (i+1) 0 4 Ck;rw[l]at m;obtain⟨I,g⟩:=m;have p:=Bc l;by_cases q:r<0;·rw[Th q];go_in;go_wp2_with fail;refine(Dx s (i+1) 0 4 _ b).mono ?_;rw[Ba p];rintro e f ⟨rfl,rfl⟩;go_wp2_with fail;refine tb (.tuple #[.agg #[.i 0,.s none 0 0],.i (-1)]) (by simp[results,results137,go_sem]) ?_;exact⟨0,none,0,0,rfl,fun h=>absurd h Fm,QN _⟩
 rw[Pk q];generalize A:Rf.at' s.data.toList i=x;have B:=Bc A;go_in;go_wp2_with fail;refine(Dx s (i+1) 0 4 _ b).mono ?_;rw[Ba p];rintro e f ⟨rfl,rfl⟩;go_wp2_with fail;refine(Ge s i _ b).mono ?_;rw[Ba B];rintro e f ⟨rfl,rfl⟩;go_wp2_with fail;refine(J8 s (i+2) r _ b Ck Ck Ck Ck).mono ?_;rintro e f ⟨a,c,rfl,C,g⟩;have t:=(g.block w.heap.size Hd).trans (Be w _);obtain⟨v,z⟩:=cl2 t;obtain⟨J,K⟩:=fr2 t;simp at v z;have D:Bl w f:=(QN _).trans (g.mono Hd);go_wp2_with fail;refine tb (.tuple #[.agg #[.i x,.s a r.toNat c],.i (i+2+2*r)]) (by simp[results,results137,go_sem,v,z]) ?_;refine⟨_,_,_,_,rfl,fun _=>⟨rfl,?_⟩,(D.setCell Hd _).setCell Hd _⟩;exact D6 (Bt9 (Bt9 C Hd _) Hd _) Hd
def Tryz.infoRMap:(prog.info? 168).map (fun i=>(i.zero,i.size,i.bytes))=some (some (.agg #[.i 0,.s none 0 0,.s none 0 0]),3,56):=Lt
def Yn{α:Type}{f:Int->α×Int}{k:Nat}{c:Int}(e:0<=(Rf.rep f k c).2)(h:(f (Rf.rep f k c).2).2<0)(m:Nat)(g:k<m):(Rf.rep f m c)=([],-1):=by
 have b:Rf.rep f (k+1) c=([],-1):=by
  unfold Rf.rep;rw[Pk Ck,Th h]
 have:∀n,Rf.rep f (k+1+n) c=([],-1):=by
  intro n
  induction n with
  | zero=>exact b
  | succ j ih =>
   rw[show k+1+(j+1)=(k+1+j)+1 by omega];unfold Rf.rep;rw[ih,Th Hd]
 obtain⟨n,rfl⟩:∃n,m=k+1+n:=⟨m-(k+1),Ck⟩;exact this n
def Bot{s:TB}{L H i:Int}(h:0<=(Rf.mp s L H i).2)(e:H<=8)(f:L<=8)(g:0<=L):(Rf.mp s L H i).2<=i+34/\i<=(Rf.mp s L H i).2:=by
 unfold Rf.mp at h ⊢
 split
 ·rename_i c;rw[Th c]at h;simp at h
 rename_i c;by_cases b:-1<=H;·have:=Rf.cnt_bd s (i+1+2*L) 0 H b;simp only;omega
 exfalso
 unfold Rf.cnt at c;have:=Rf.at_bd s (i+1+2*L)
 split at c
 ·omega
 split at c<;>omega
def Bjh(s:ByteArray)(i L H:Int)(w:TW)(f:s.size<=maxLen)(d2:0<=i)(d3:i<=100000)(b8:0<=L)(d4:L<=8)(d5:0<=H)(d6:H<=8):Calls prog 200 #[.string s,.i i,.i L,.i H] w fun e w' => ∃a n c l,e=.r (.tuple #[.s a n c,.i (Rf.mps s.data.toList i L H).2])/\l.map Prod.fst=(Rf.mps s.data.toList i L H).1/\K4 w' w.heap.size (.s a n c) l/\Bl w w':=by
 obtain⟨i0,hi,b9,c0,c6⟩:=Bsa Tryz.infoRMap;unfold Rf.mps;generalize Q:Rf.cnt s.data.toList i 0 64=r;have hb:=Rf.cnt_bd s.data.toList i 0 64 Ck;rw[Q]at hb;obtain⟨d7,G⟩:=hb;have HR:=Bc Q;clear Q;by_cases h0:r<0;·rw[Th h0];go_in;go_wp2_with fail;refine(Dx s i 0 64 _ f).mono ?_;rw[Ba HR];rintro e A ⟨rfl,rfl⟩;go_wp2;go_ret2;exact⟨none,0,0,[],rfl,rfl,⟨Brw _ _ _ _,Hd⟩,Brm _ _⟩
 rw[Pk h0];generalize g:Rf.rep (Rf.mp s.data.toList L H) r.toNat (i+1)=z;have HZ:=Bc g;clear g;go_in;go_wp2_with fail;refine(Dx s i 0 64 _ f).mono ?_;rw[Ba HR];rintro e A ⟨rfl,rfl⟩;go_wp2
 go_loopw [1,11,12] (fun p v j wr=>∃(k:Nat) (q:Int) (l:List (Rd.Mp×Value×Value)),(k:Int)<=r/\j=.i k/\p=.i q/\l.length=k/\0<=q/\q<=i+1+34*(k:Int)/\Hid (Rf.rep (Rf.mp s.data.toList L H) k (i+1)=(l.map Prod.fst,q)) /\
   K4 wr w.heap.size v l/\Bl w wr)
  (fun _ _ j _=>r.toNat-(intOf j).toNat)
 case atStart=>exact⟨0,_,[],Ck,rfl,rfl,rfl,Ck,Ck,rfl,⟨Brw _ _ _ _,Hd⟩,Brm _ _⟩
 case round=>
  obtain⟨k,q,l,hk,rfl,rfl,I,a8,d8,J,K,B⟩:=hrel;have a9:=B.size;by_cases d9:(k:Int)<r
  ·generalize C:Rf.at' s.data.toList q=x;generalize t:Rf.cnt s.data.toList (q+1+2*L) 0 H=h;have b0:=Rf.cnt_bd s.data.toList (q+1+2*L) 0 H Ck;rw[t]at b0;obtain⟨f0,f1⟩:=b0;by_cases b1:h<0
   ·have g:z=([],-1):=by
     rw[<- Ba HZ];refine Yn (k:=k) ?_ ?_ _ Ck
     ·rw[Ba J];exact a8
     rw[Ba J];unfold Rf.mp;rw[t,Th b1]
     decide
    have D:=Bc g;have V:=Bc C;have Y:=Bc t;clear g C t I;go_wp2_with fail;refine(Ge s q _ f).mono ?_;rw[Ba V];rintro e A ⟨rfl,rfl⟩;go_wp2_with fail;refine(Dx s (q+1+2*L) 0 H _ f).mono ?_;rw[Ba Y];rintro e A ⟨rfl,rfl⟩;go_wp2;go_ret2;exact⟨none,0,0,[],by rw[Ba D];rfl,by rw[Ba D];rfl,⟨Brw _ _ _ _,Hd⟩,B⟩
   generalize Z:Rf.tys s.data.toList (q+1) L.toNat=q2;generalize a0:Rf.tys s.data.toList (q+2+2*L) h.toNat=q4;have b2:Rf.mp s.data.toList L H q=(⟨x,q2,q4⟩,q+2+2*L+2*h):=by
    unfold Rf.mp;rw[t,Pk b1,C,Z,a0]
   have HE:Hid (Rf.rep (Rf.mp s.data.toList L H) (k+1) (i+1)=(l.map Prod.fst++[⟨x,q2,q4⟩],q+2+2*L+2*h)):=Rf.rep_step (Ba J) a8 b2 Ck;have V:=Bc C;have Y:=Bc t;have c7:=Bc Z;have c8:=Bc a0;have a3:=Bc I;clear C t Z a0 b2 I;go_wp2_with fail;refine(Ge s q _ f).mono ?_;rw[Ba V];rintro e A ⟨rfl,rfl⟩;go_wp2_with fail;refine(Dx s (q+1+2*L) 0 H _ f).mono ?_;rw[Ba Y];rintro e A ⟨rfl,rfl⟩;go_wp2_with fail;refine(J8 s (q+1) L _ f Ck Ck b8 Ck).mono ?_;rw[Ba c7];rintro e A ⟨a1,c1,rfl,b3,G⟩;have a4:=B.trans (G.mono a9);have b4:=a4.size;go_wp2_with fail;refine(J8 s (q+2+2*L) h _ f Ck Ck Ck Ck).mono ?_;rw[Ba c8];rintro e w2 ⟨a2,c2,rfl,b5,N⟩;have a5:=a4.trans (N.mono b4);have c9:=a5.size;have T1:=(b3.mono a9).kp (Kp.of_below (e:=none) N) Fm;have T2:=b5.mono b4;have a6:=(K.kp (Kp.of_below (e:=none) G) Fm Fm).kp (Kp.of_below (e:=none) N) Fm Fm;have b6:=Bc a6.2;have O:=a6.1;clear b3 b5 K a6 B a4 G N;go_wp2_with (at_builtin;refine Br3 _ rfl _ _ 107 rfl w.heap.size 168 i0 _ 3 56 underlying107 hi b9 c0 c6 rfl Fm _ _ _ rfl (O.alloc _) ⟨w2.heap.size,0,none⟩ 1 1 [.i x,.s a1 L.toNat c1,.s a2 h.toNat c2] rfl rfl ?c1 ?c2 ?c3 ?c4 ?c5 ?_)
   case c1=>exact Dh _ _ _ _ rfl
   case c2=>intro u hu;simp at hu;rcases hu with rfl|rfl|rfl<;>rfl
   case c3=>have:=Ba a3;unfold maxLen;omega
   case c4=>have:=Ba a3;omega
   case c5=>simp;omega
   intro v' w3 b7 a7 _;have d0:=(a5.alloc c9 (O9 x a1 L.toNat c1 a2 h.toNat c2)).grown a7 Fr (fun j hj=>(O.lt j hj).1);have F:=(Kp.alloc (e:=some 168) (b:=w.heap.size) _ _).trans (Kp.of_grown a7 (O.alloc _));have d1:K4 w3 w.heap.size v' (l++[(⟨x,q2,q4⟩,.s a1 L.toNat c1,.s a2 h.toNat c2)]):=by
    refine⟨?_,?_⟩
    ·rw[Xx,Ws];exact b7
    intro p m;rw[Bs1]at m;rcases m with m|m
    ·exact⟨(Ba b6 p m).1.kp F Fm,(Ba b6 p m).2.kp F Fm⟩
    simp only[Bth]at m;subst m;exact⟨T1.kp F Fm,T2.kp F Fm⟩
   clear a7 O b7 F T1 T2 a5;go_wp2;go_roundw
   case rel=>exact⟨k+1,_,_,Ck,Mg,rfl,by rw[Ws,Ba a3];rfl,Ck,Ck,by unfold Hid;rw[Ba HE,Bse];rfl,d1,d0⟩
   case measure=>simp[intOf];omega
  obtain rfl:k=r.toNat:=Ck;have g:z=(l.map Prod.fst,q):=by rw[<- Ba HZ];exact Ba J
  have D:=Bc g;clear g I;obtain⟨va,vc,rfl⟩:=Bh K.1;go_wp2;go_ret2;exact⟨_,_,_,by rw[Ba D];rfl,l,by rw[Ba D],K,B⟩
def Ze{P:Program}{B:Array Oper}{o:Oper}{a:Act}{w:TW}{K:Act->TW->Prop}{Q:Exit->Act->TW->Prop}{E:Prop} (C:o.guard=none)(s x:Operand)(t:TypeId)(D:o.op=Op.call { callee:=Callee.builtin Builtin.append,args:=#[s,x],argTypes:=#[t,t] }) (h:Nat)(e:TypeId)(i:TypeInfo)(z:TX)(b p:Nat)(F:P.underlying t=some (.s e))(G:P.info? e=some i)(I:i.zero=some z)(J:i.size=b)(L:i.bytes=p)(N:z.cells.size=b)(O:0<b) (v:TX)(n:Nat)(q:TV)(V:a.eval s=v)(Y:w.ownsRow h e b v n q) (A:Addr)(m c:Nat)(f:TV)(Z:a.eval x=.s (some A) m c)(hn:f.length=m*b)(hc:∀j u,f[j]?=some u->w.cell? (A.add j)=some u)(a0:∀u∈f,u.oneCell'=true) (b1:n+m<=maxLen)(b2:(n+m)*p<=140737488355328)(b3:h<=w.heap.size) (hK:∀l g,g.ownsRow h e b l (n+m) (q++f)->w.grownBy g v.ownBlock->K (a.put o.dst l) g):if Region.wanted o (yielded B a.tmps)=true then Oper.wp P o a w K Q else E:=by
 have hw:Region.wanted o (yielded B a.tmps)=true:=by simp[Region.wanted,C]
 rw[Th hw];obtain⟨l,g,a1,r1,r2,_⟩:=run_append_own (P:=P) w h t o.type e i z b p F G I J L N O v n q Y A m c f hn hc a0 b1 b2 b3;unfold Oper.wp;simp[execOp,D,resolve,invoke,builtin,V,Z,a1,Result.andThen];exact hK l g r1 r2
def Tryz.infoRHandler:(prog.info? 164).map (fun i=>(i.zero,i.size,i.bytes))=some (some (.agg #[.i 0,.i 0,.i 0,.i 0]),4,32):=Lt
def Bbf(s:TB)(i:Int)(n:Nat):(Rf.hndTo s i n).length=n:=by
 induction n with
 | zero=>rfl
 | succ k ih=>simp[Rf.hndTo,ih]
def Cx(n:Int)(b:-9223372036854775808<=n)(c:n<=9223372036854775807):IntKind.i64.wrap n=n:=by
 rw[Go.IntWalk.i64_left,Go.IntWalk.wrap64_in _ ⟨b,c⟩]
theorem Bas(s:ByteArray)(i:Int)(w:World)(f:s.size<=maxLen)(a5:0<=i)(a6:i<=100000):Calls prog 199 #[.string s,.int .i64 i] w fun e m => ∃a n c,e=.returned (.tuple #[.slice a n c,.int .i64 (Rf.hnds s.data.toList i).2])/\Iz m w.heap.size (.slice a n c) (Rf.hnds s.data.toList i).1/\Below w.heap.size w m:=by
 obtain⟨D,F,G,I,J⟩:=Bsa Tryz.infoRHandler;have K:s.data.toList.length=s.size:=Hd;unfold Rf.hnds;rw[K];generalize g:Rf.cnt s.data.toList i 0 4=r;have p:=Rf.cnt_bd s.data.toList i 0 4 Ck;rw[g]at p;obtain⟨a7,a8⟩:=p;have h:=Bc g;clear g;by_cases t:r<0;·rw[Th t];go_in;go_wp2_with fail;refine(Dx s i 0 4 _ f).mono ?_;rw[Ba h];rintro e z ⟨rfl,rfl⟩;go_wp2;go_ret2;exact⟨none,0,0,rfl,Brw _ _ _ _,Brm _ _⟩
 rw[Pk t];by_cases A:(s.size:Int)<i+1+4*r;·rw[Th A];go_in;go_wp2_with fail;refine(Dx s i 0 4 _ f).mono ?_;rw[Ba h];rintro e z ⟨rfl,rfl⟩;go_wp2;go_ret2;exact⟨none,0,0,rfl,Brw _ _ _ _,Brm _ _⟩
 rw[Pk A];unfold Iz;dsimp only;rw[Bbf];have d0:decide (r<0)=false:=Fr;have d1:decide ((s.size:Int)<i+1+4*r)=false:=Fr;go_in;go_wp2_with fail;refine(Dx s i 0 4 _ f).mono ?_;rw[Ba h];rintro e z ⟨rfl,rfl⟩;go_wp2
 go_loopw [7,8] (fun v j wr=>∃k:Nat,(k:Int)<=r/\j=.int .i64 k/\wr.ownsRow w.heap.size 164 4 v k (Ev (Rf.hndTo s.data.toList i k))/\Below w.heap.size w wr)
  (fun _ j _=>r.toNat-(intOf j).toNat)
 case atStart=>exact⟨0,Ck,rfl,Brw _ _ _ _,Brm _ _⟩
 case round=>
  obtain⟨k,hk,rfl,b,l⟩:=hrel;have L:=l.size;by_cases a9:(k:Int)<r
  ·obtain⟨q,N⟩:=Brp (show 0<=i+1+4*(k:Int) by omega);have O:q+3<s.size:=Ck;have Q:q+2<s.size:=Ck;have V:q+1<s.size:=Ck;have Y:q<s.size:=Ck;have z3:(q:Int)+3<(s.size:Int):=Ck;have z2:(q:Int)+2<(s.size:Int):=Ck;have z1:(q:Int)+1<(s.size:Int):=Ck;have Z:Hid (Ev (Rf.hndTo s.data.toList i (k+1))=Ev (Rf.hndTo s.data.toList i k)++[.int .i64 (s[q].toNat:Int),.int .i64 (s[q+1].toNat:Int),.int .i64 (s[q+2].toNat:Int),.int .i64 (s[q+3].toNat:Int)]):=by
    unfold Hid;rw[Rf.hndTo,X7,N];unfold Rf.hndAt;have a1:Rf.at' s.data.toList ((q:Int)+1)=_:=Ry (i:=q+1) V;have a2:Rf.at' s.data.toList ((q:Int)+2)=_:=Ry (i:=q+2) Q;have a3:Rf.at' s.data.toList ((q:Int)+3)=_:=Ry (i:=q+3) O;rw[Ry Y,a1,a2,a3]
   have b0:IntKind.i64.wrap ((q:Int)+1)=(q:Int)+1:=Cx _ Ck Ck;have b1:IntKind.i64.wrap ((q:Int)+2)=(q:Int)+2:=Cx _ Ck Ck;have b2:IntKind.i64.wrap ((q:Int)+3)=(q:Int)+3:=Cx _ Ck Ck;have b3:∀c:UInt8,IntKind.i64.wrap (c.toNat:Int)=(c.toNat:Int):=fun c=>Cx _ Ck (by have:=c.toNat_lt;omega);have y1:0<=(q:Int)+1:=Ck;have y2:0<=(q:Int)+2:=Ck;have y3:0<=(q:Int)+3:=Ck;have e1:((q:Int)+1).toNat=q+1:=Ck;have e2:((q:Int)+2).toNat=q+2:=Ck;have e3:((q:Int)+3).toNat=q+3:=Ck;go_wp2
   go_region_held3 (fun _=>True) (exact trivial) ((refine Ze Ls _ _ _ Ls w.heap.size 164 D _ 4 32 underlying106 F G I J rfl Ck _ _ _ Ls ((b.alloc _).drew) ⟨wr.heap.size,0,none⟩ 1 1 [.int .i64 (s[q].toNat:Int),.int .i64 (s[q+1].toNat:Int),.int .i64 (s[q+2].toNat:Int),.int .i64 (s[q+3].toNat:Int)] Ls Ls (Dh wr _ _ _ rfl) (by simp[Value.oneCell']) Pf Ck Fr ?_;intro v' w2 B C))
   all_goals
    have a0:w2.ownsRow w.heap.size 164 4 v' (k+1) (Ev (Rf.hndTo s.data.toList i (k+1))):=by rw[Ba Z];exact B
    have a4:=((l.alloc L _).drew).grown C Fr (fun j hj=>(b.lt j hj).1);clear C B;go_wp2;go_roundw
    case rel=>exact⟨k+1,Ck,Mg,a0,a4⟩
    case measure=>simp[intOf];omega
  obtain rfl:k=r.toNat:=Ck;obtain⟨va,vc,rfl⟩:=Bh b;go_wp2;go_ret2;exact⟨_,_,_,rfl,b,l⟩
def Bma(s:ByteArray)(i p:Int)(w:TW)(f:s.size<=maxLen)(a0:0<=i)(a1:i<=50000)(j:Hid (Rf.cnt s.data.toList (i+2) 0 4=p))(h:p<0):Calls prog 138 #[.string s,.i i] w fun e l => ∃b c m q t v z A B C D F G I J K L N,e=.r (.tuple #[.agg #[.i b,.i c,.s m q t,.i v,.i z,.i A,.i B,.string C,.s D F G,.s I J K,.i L,.i N],.i (-1)])/\Bl w l:=by
 have O:∃b c,Rf.at' s.data.toList i=b/\Rf.at' s.data.toList (i+1)=c:=⟨_,_,rfl,rfl⟩;obtain⟨b,c,Q,V⟩:=O;have Y:=Bc Q;have Z:=Bc V;go_in;go_wp2_with fail;refine(Ge s i _ f).mono ?_;rw[Ba Y];rintro e g ⟨rfl,rfl⟩;go_wp2_with fail;refine(Ge s (i+1) _ f).mono ?_;rw[Ba Z];rintro e g ⟨rfl,rfl⟩;go_wp2_with fail;refine(Dx s (i+2) 0 4 _ f).mono ?_;rw[Ba j];rintro e g ⟨rfl,rfl⟩;go_wp2_with fail;refine tb (.tuple #[.agg #[.i b,.i c,.s none 0 0,.i 0,.i 0,.i 0,.i 0,.string ⟨#[]⟩,.s none 0 0,.s none 0 0,.i 0,.i 0],.i (-1)]) (by simp[results,Bva,go_sem]) ?_;exact⟨b,c,_,_,_,_,_,_,_,_,_,_,_,_,_,_,_,_,rfl,(QN _).alloc Hd _⟩
def Vp(s:ByteArray)(i p l h n:Int)(w:TW)(b:s.size<=maxLen)(c6:0<=i)(c7:i<=50000)(HP:Hid (Rf.cnt s.data.toList (i+2) 0 4=p))(HL:Hid (Rf.cnt s.data.toList (i+3+2*p+2) 0 8=l))(HH:Hid (Rf.cnt s.data.toList (i+3+2*p+3) 0 8=h))(HN:Hid (Rf.cnt s.data.toList (i+3+2*p+4) 1 120=n))(d0:0<=p)(d1:p<=4)(g:l<0\/(0<=l/\h<0)\/(0<=l/\0<=h/\n<0)\/(0<=l/\0<=h/\0<=n/\n<=120/\(s.size:Int)<i+3+2*p+5+n)):Calls prog 138 #[.string s,.i i] w fun e w' => ∃j m c n2 f x3 x4 x5 x6 sb a8 n8 c8 a9 n9 c9 a4 a5,e=.r (.tuple #[.agg #[.i j,.i m,.s c n2 f,.i x3,.i x4,.i x5,.i x6,.string sb,.s a8 n8 c8,.s a9 n9 c9,.i a4,.i a5],.i (-1)])/\Bl w w':=by
 have G1:∃j m F z A,Rf.at' s.data.toList i=j/\Rf.at' s.data.toList (i+1)=m/\Rf.tys s.data.toList (i+3) p.toNat=F/\Rf.at' s.data.toList (i+3+2*p)=z/\Rf.at' s.data.toList (i+3+2*p+1)=A:=⟨_,_,_,_,_,rfl,rfl,rfl,rfl,rfl⟩;obtain⟨j,m,F,z,A,a6,a7,b0,b3,b4⟩:=G1;have b5:=Bc a6;have b6:=Bc a7;have b7:=Bc b0;have b8:=Bc b3;have b9:=Bc b4;go_in;go_wp2_with fail;refine(Ge s i _ b).mono ?_;rw[Ba b5];rintro e q ⟨rfl,rfl⟩;go_wp2_with fail;refine(Ge s (i+1) _ b).mono ?_;rw[Ba b6];rintro e q ⟨rfl,rfl⟩;go_wp2_with fail;refine(Dx s (i+2) 0 4 _ b).mono ?_;rw[Ba HP];rintro e q ⟨rfl,rfl⟩;go_wp2_with fail;refine(J8 s (i+3) p _ b Ck Ck Ck Ck).mono ?_;rw[Ba b7];rintro e w1 ⟨c,f,rfl,T1,B⟩;have t:=stay B (Bx w _ _);have C1:=stay B (Cb w _ _);have G:=(Bu w _ _).trans (B.mono Fr);have s1:=G.size;have C:=Bb t 2;have f2:=Bk t 2;simp at C;go_wp2_with fail;refine(J8 s (i+3+2*p) 1 _ b Ck Ck Ck Ck).mono ?_;rintro e w2 ⟨ar,cr,rfl,TR,v⟩;have D:=stay v (Bt (i:=2) t (.s c p.toNat f));have I:=stay v (Du C1 (p:=.a (w.heap.size+1) 2) Hd (.s c p.toNat f));simp at D;have J:=(G.setCell (p:=.a (w.heap.size+1) 2) Hd (.s c p.toNat f)).trans (v.mono Fr);have T2:=((T1.mono (b':=w.heap.size) Fr).kp (Kp.set (i:=2) t (.s c p.toNat f)) Fm).kp (Kp.of_below (e:=none) v) Fm;have s2:=J.size;obtain⟨gr,c0,d2,c1,K⟩:=Cf TR (by rw[Mx];decide);have L:=K 0 (by simp[Bp,Rf.tys]);have N:=K 1 (by simp[Bp,Rf.tys]);simp[Bp,Rf.tys]at L N;rw[Ba b8]at L;rw[Ba b9]at N;have d3:gr≠w.heap.size+1:=by
  have hh:=Sp t;simp at c1;omega
 subst c0;obtain⟨k0,k1,C,k3,k4,k5,k6,k7,k8,k9,c3,c4⟩:=El D;obtain⟨f0,f1,f2,f3,f4,f5,f6,f7,f8,f9,d4,d5⟩:=Sd D;obtain⟨O,Q,V,Y,Z,z5,z6,z7,z8,z9,a0,a1⟩:=El I;obtain⟨g0,g1,g2,g3,g4,g5,g6,g7,g8,g9,g10,d6⟩:=Sd I;simp at k0 k1 C k3 k4 k5 k6 k7 k8 k9 c3 c4 O Q V Y Z z5 z6 z7 z8 z9 a0 a1;go_wp2_with fail;refine(Dx s (i+3+2*p+2) 0 8 _ b).mono ?_;rw[Ba HL];rintro e q ⟨rfl,rfl⟩;go_wp2_with fail;refine(Dx s (i+3+2*p+3) 0 8 _ b).mono ?_;rw[Ba HH];rintro e q ⟨rfl,rfl⟩;go_wp2_with fail;refine(Dx s (i+3+2*p+4) 1 120 _ b).mono ?_;rw[Ba HN];rintro e q ⟨rfl,rfl⟩;rcases g with g|⟨a3,g⟩|⟨a3,c5,g⟩|⟨a3,c5,d7,d8,g⟩
 all_goals
  go_wp2_with fail;refine tb (.tuple #[.agg #[.i j,.i m,.s c p.toNat f,.i z,.i A,.i l,.i h,.string ⟨#[]⟩,.s none 0 0,.s none 0 0,.i 0,.i 0],.i (-1)]) (by simp[results,Bva,go_sem,O,Q,V,Y,Z,z5,z6,z7,z8,z9,a0,a1]) ?_;exact⟨_,_,_,_,_,_,_,_,_,_,_,_,_,_,_,_,_,_,rfl,by repeat (first|refine Bry ?_ Hd _|exact J)⟩
def Bl9(s:ByteArray)(i p l h:Int)(j n:Nat)(hq:List Rd.Hnd×Int)(w:TW)(b:s.size<=maxLen)(d2:0<=i)(d3:i<=50000)(HP:Hid (Rf.cnt s.data.toList (i+2) 0 4=p))(hj:i+3+2*p=(j:Int))(HL:Hid (Rf.cnt s.data.toList ((j:Int)+2) 0 8=l))(HH:Hid (Rf.cnt s.data.toList ((j:Int)+3) 0 8=h))(HN:Hid (Rf.cnt s.data.toList ((j:Int)+4) 1 120=(n:Int)))(d4:0<=p)(d5:p<=4)(d6:0<=l)(d7:l<=8)(d8:0<=h)(d9:h<=8)(h0:n<=120)(h1:j+5+n<=s.size)(HQ:Hid (Rf.hnds s.data.toList ((j:Int)+5+(n:Int))=hq))(h2:hq.2<0):Calls prog 138 #[.string s,.i i] w fun e w' => ∃m q f n2 g x3 x4 x5 x6 sb a8 n8 c8 a9 n9 c9 a7 b0,e=.r (.tuple #[.agg #[.i m,.i q,.s f n2 g,.i x3,.i x4,.i x5,.i x6,.string sb,.s a8 n8 c8,.s a9 n9 c9,.i a7,.i b0],.i (-1)])/\Bl w w':=by
 have G1:∃m q ps Y Z,Rf.at' s.data.toList i=m/\Rf.at' s.data.toList (i+1)=q/\Rf.tys s.data.toList (i+3) p.toNat=ps/\Rf.at' s.data.toList (j:Int)=Y/\Rf.at' s.data.toList ((j:Int)+1)=Z:=⟨_,_,_,_,_,rfl,rfl,rfl,rfl,rfl⟩;obtain⟨m,q,ps,Y,Z,b4,b5,b6,b7,b8⟩:=G1;have b9:=Bc b4;have c0:=Bc b5;have c1:=Bc b6;have c3:=Bc b7;have c4:=Bc b8;go_in;go_wp2_with fail;refine(Ge s i _ b).mono ?_;rw[Ba b9];rintro e t ⟨rfl,rfl⟩;go_wp2_with fail;refine(Ge s (i+1) _ b).mono ?_;rw[Ba c0];rintro e t ⟨rfl,rfl⟩;go_wp2_with fail;refine(Dx s (i+2) 0 4 _ b).mono ?_;rw[Ba HP];rintro e t ⟨rfl,rfl⟩;go_wp2_with fail;refine(J8 s (i+3) p _ b Ck Ck Ck Ck).mono ?_;rw[Ba c1];rintro e w1 ⟨f,g,rfl,T1,b1⟩;have v:=stay b1 (Bx w _ _);have C1:=stay b1 (Cb w _ _);have a3:=(Bu w _ _).trans (b1.mono Fr);have s1:=a3.size;have z:=Bb v 2;have f2:=Bk v 2;simp at z;go_wp2_with fail;refine(J8 s (j:Int) 1 _ b Ck Ck Ck Ck).mono ?_;rintro e w2 ⟨ar,cr,rfl,TR,A⟩;have c:=stay A (Bt (i:=2) v (.s f p.toNat g));have C2:=stay A (Du C1 (p:=.a (w.heap.size+1) 2) Hd (.s f p.toNat g));simp at c;have a4:=(a3.setCell (p:=.a (w.heap.size+1) 2) Hd (.s f p.toNat g)).trans (A.mono Fr);have T2:=((T1.mono (b':=w.heap.size) Fr).kp (Kp.set (i:=2) v (.s f p.toNat g)) Fm).kp (Kp.of_below (e:=none) A) Fm;have s2:=a4.size;obtain⟨gr,c5,h3,c6,a5⟩:=Cf TR (by rw[Mx];decide);have r0:=a5 0 (by simp[Bp,Rf.tys]);have r1:=a5 1 (by simp[Bp,Rf.tys]);simp[Bp,Rf.tys]at r0 r1;rw[Ba c3]at r0;rw[Ba c4]at r1;have h4:gr≠w.heap.size+1:=by
  have hh:=Sp v;simp at c6;omega
 subst c5;obtain⟨k0,k1,z,k3,k4,k5,k6,k7,k8,k9,a0,a1⟩:=El c;obtain⟨f0,f1,f2,f3,f4,f5,f6,f7,f8,f9,c7,d0⟩:=Sd c;obtain⟨B,C,D,F,G,I,J,K,L,N,O,Q⟩:=El C2;obtain⟨g0,g1,g2,g3,g4,g5,g6,g7,g8,g9,g10,d1⟩:=Sd C2;simp at k0 k1 z k3 k4 k5 k6 k7 k8 k9 a0 a1 B C D F G I J K L N O Q;go_wp2_with fail;refine(Dx s ((j:Int)+2) 0 8 _ b).mono ?_;rw[Ba HL];rintro e t ⟨rfl,rfl⟩;go_wp2_with fail;refine(Dx s ((j:Int)+3) 0 8 _ b).mono ?_;rw[Ba HH];rintro e t ⟨rfl,rfl⟩;go_wp2_with fail;refine(Dx s ((j:Int)+4) 1 120 _ b).mono ?_;rw[Ba HN];rintro e t ⟨rfl,rfl⟩;have h5:j+5<=s.size:=Ck;have h6:(j:Int)+5+(n:Int)<=(s.size:Int):=Ck;go_wp2_with fail;refine(Bas s ((j:Int)+5+(n:Int)) _ b Ck Ck).mono ?_;rw[Ba HQ];rintro e w3 ⟨a8,n8,c8,rfl,T8,V⟩;have B3:=stay V (Bt (i:=7) (Bt (i:=6) (Bt (i:=5) (Bt (i:=4) (Bt (i:=3) c _) _) _) _) _);have C3:=stay V (Du (Du (Du (Du (Du C2 (p:=.a (w.heap.size+1) 3) Hd _) (p:=.a (w.heap.size+1) 4) Hd _) (p:=.a (w.heap.size+1) 5) Hd _) (p:=.a (w.heap.size+1) 6) Hd _) (p:=.a (w.heap.size+1) 7) Hd _);simp at B3;have a6:=(((((a4.setCell (p:=.a (w.heap.size+1) 3) Hd _).setCell (p:=.a (w.heap.size+1) 4) Hd _).setCell (p:=.a (w.heap.size+1) 5) Hd _).setCell (p:=.a (w.heap.size+1) 6) Hd _).setCell (p:=.a (w.heap.size+1) 7) Hd _).trans (V.mono Fr);have T3:=(T2.kp (((((Kp.set (i:=3) c _).trans (Kp.set (i:=4) (Bt (i:=3) c _) _)).trans (Kp.set (i:=5) (Bt (i:=4) (Bt (i:=3) c _) _) _)).trans (Kp.set (i:=6) (Bt (i:=5) (Bt (i:=4) (Bt (i:=3) c _) _) _) _)).trans (Kp.set (i:=7) (Bt (i:=6) (Bt (i:=5) (Bt (i:=4) (Bt (i:=3) c _) _) _) _) _)) Fm).kp (Kp.of_below (e:=none) V) Fm;have s3:=a6.size;have h7:=T8.mono (b':=w.heap.size) Fr;obtain⟨k0,k1,z,k3,k4,k5,k6,k7,k8,k9,a0,a1⟩:=El B3;obtain⟨f0,f1,f2,f3,f4,f5,f6,f7,f8,f9,c7,d0⟩:=Sd B3;obtain⟨B,C,D,F,G,I,J,K,L,N,O,Q⟩:=El C3;obtain⟨g0,g1,g2,g3,g4,g5,g6,g7,g8,g9,g10,d1⟩:=Sd C3;simp at k0 k1 z k3 k4 k5 k6 k7 k8 k9 a0 a1 B C D F G I J K L N O Q;go_wp2_with fail;refine tb (.tuple #[.agg #[.i m,.i q,.s f p.toNat g,.i Y,.i Z,.i l,.i h,.string (s.extract (j+5) (j+5+n)),.s none 0 0,.s none 0 0,.i 0,.i 0],.i (-1)]) (by simp[results,Bva,go_sem,B,C,D,F,G,I,J,K,L,N,O,Q]) ?_;exact⟨_,_,_,_,_,_,_,_,_,_,_,_,_,_,_,_,_,_,rfl,by repeat (first|refine Bry ?_ Hd _|exact a6)⟩
def Bnf(s:ByteArray)(a b:Nat)(e:a<=b)(c:b<s.size):(s.extract a (b+1)).data.toList=(s.extract a b).data.toList++[s[b]]:=by
 rw[Bwo,Bwo,Bwx,Bwx,Bv4,Bv4];rw[show b+1-a=(b-a)+1 by omega,Bss (by simp;have:s.data.size=s.size:=rfl;omega)]
 congr 1
 simp;rw[show (s[b]:UInt8)=s.data[b]'c from rfl]
 congr 1
 omega
def Bed(s:ByteArray)(j n:Nat)(h:j+5+n<=s.size):(s.extract (j+5) (j+5+n)).data.toList.map (fun c=>(c.toNat:Int))=Rf.codeTo s.data.toList ((j:Int)+5) n:=by
 induction n with
 | zero=>simp[Rf.codeTo]
 | succ k ih =>
  have e:(s.extract (j+5) (j+5+(k+1))).data.toList=(s.extract (j+5) (j+5+k)).data.toList++[s[j+5+k]'Ck]:=by
   exact Bnf s (j+5) (j+5+k) Ck Ck
  rw[e,Bse,ih Ck,Rf.codeTo];have a:Rf.at' s.data.toList ((j:Int)+5+(k:Int))=_:=Ry (i:=j+5+k) Ck;rw[a];rfl
def Bl8(s:ByteArray)(i p l h G I J K:Int)(ps:TP)(j n:Nat)(c:List Rd.Hnd×Int)(f:List Rd.Mp×Int)(w:TW)(g:s.size<=maxLen)(i1:0<=i)(i2:i<=50000)(HP:Hid (Rf.cnt s.data.toList (i+2) 0 4=p))(hj:i+3+2*p=(j:Int))(HL:Hid (Rf.cnt s.data.toList ((j:Int)+2) 0 8=l))(HH:Hid (Rf.cnt s.data.toList ((j:Int)+3) 0 8=h))(HN:Hid (Rf.cnt s.data.toList ((j:Int)+4) 1 120=(n:Int)))(i3:0<=p)(i4:p<=4)(c5:0<=l)(c6:l<=8)(c7:0<=h)(d0:h<=8)(i5:n<=120)(d1:j+5+n<=s.size)(HQ:Hid (Rf.hnds s.data.toList ((j:Int)+5+(n:Int))=c))(d2:0<=c.2)(i6:c.2<=100000)(HM:Hid (Rf.mps s.data.toList c.2 l h=f)) (d3:Hid (Rf.at' s.data.toList i=G))(d4:Hid (Rf.at' s.data.toList (i+1)=I))(d5:Hid (Rf.tys s.data.toList (i+3) p.toNat=ps))(d6:Hid (Rf.at' s.data.toList (j:Int)=J))(d7:Hid (Rf.at' s.data.toList ((j:Int)+1)=K)):Calls prog 138 #[.string s,.i i] w fun e w' => ∃m n2 q sb t v z A B C,e=.r (.tuple #[.agg #[.i G,.i I,.s m n2 q,.i J,.i K,.i l,.i h,.string sb,.s t v z,.s A B C,.i c.2,.i f.2],.i f.2])/\Pn w' w.heap.size ⟨⟨G,I,ps,(J,K),l,h,Rf.codeTo s.data.toList ((j:Int)+5) n,c.1,f.1⟩,c.2,f.2⟩ ⟨.s m n2 q,sb,.s t v z,.s A B C⟩/\Bl w w':=by
 go_in;go_wp2_with fail;refine(Ge s i _ g).mono ?_;rw[Ba d3];rintro e w0 ⟨rfl,rfl⟩;go_wp2_with fail;refine(Ge s (i+1) _ g).mono ?_;rw[Ba d4];rintro e w0 ⟨rfl,rfl⟩;go_wp2_with fail;refine(Dx s (i+2) 0 4 _ g).mono ?_;rw[Ba HP];rintro e w0 ⟨rfl,rfl⟩;go_wp2_with fail;refine(J8 s (i+3) p _ g Ck Ck Ck Ck).mono ?_;rw[Ba d5];rintro e w1 ⟨m,q,rfl,T1,b1⟩;have B1:=stay b1 (Bx w _ _);have C1:=stay b1 (Cb w _ _);have a6:=(Bu w _ _).trans (b1.mono Fr);have s1:=a6.size;have F:=Bb B1 2;have f2:=Bk B1 2;simp at F;go_wp2_with fail;refine(J8 s (j:Int) 1 _ g Ck Ck Ck Ck).mono ?_;rintro e w2 ⟨ar,cr,rfl,TR,b2⟩;have D:=stay b2 (Bt (i:=2) B1 (.s m p.toNat q));have C2:=stay b2 (Du C1 (p:=.a (w.heap.size+1) 2) Hd (.s m p.toNat q));simp at D;have a7:=(a6.setCell (p:=.a (w.heap.size+1) 2) Hd (.s m p.toNat q)).trans (b2.mono Fr);have T2:=((T1.mono (b':=w.heap.size) Fr).kp (Kp.set (i:=2) B1 (.s m p.toNat q)) Fm).kp (Kp.of_below (e:=none) b2) Fm;have s2:=a7.size;obtain⟨gr,d8,i7,d9,b0⟩:=Cf TR (by rw[Mx];decide);have r0:=b0 0 (by simp[Bp,Rf.tys]);have r1:=b0 1 (by simp[Bp,Rf.tys]);simp[Bp,Rf.tys]at r0 r1;rw[Ba d6]at r0;rw[Ba d7]at r1;have i8:gr≠w.heap.size+1:=by
  have hh:=Sp B1;simp at d9;omega
 subst d8;obtain⟨k0,k1,F,k3,k4,k5,k6,k7,k8,k9,a3,a4⟩:=El D;obtain⟨f0,f1,f2,f3,f4,f5,f6,f7,f8,f9,b5,b6⟩:=Sd D;obtain⟨L,N,O,Q,V,Y,Z,z7,z8,z9,a0,a1⟩:=El C2;obtain⟨g0,g1,g2,g3,g4,g5,g6,g7,g8,g9,g10,b7⟩:=Sd C2;simp at k0 k1 F k3 k4 k5 k6 k7 k8 k9 a3 a4 L N O Q V Y Z z7 z8 z9 a0 a1;go_wp2_with fail;refine(Dx s ((j:Int)+2) 0 8 _ g).mono ?_;rw[Ba HL];rintro e w0 ⟨rfl,rfl⟩;go_wp2_with fail;refine(Dx s ((j:Int)+3) 0 8 _ g).mono ?_;rw[Ba HH];rintro e w0 ⟨rfl,rfl⟩;go_wp2_with fail;refine(Dx s ((j:Int)+4) 1 120 _ g).mono ?_;rw[Ba HN];rintro e w0 ⟨rfl,rfl⟩;have i9:j+5<=s.size:=Ck;have j0:(j:Int)+5+(n:Int)<=(s.size:Int):=Ck;go_wp2_with fail;refine(Bas s ((j:Int)+5+(n:Int)) _ g Ck Ck).mono ?_;rw[Ba HQ];rintro e w3 ⟨t,v,z,rfl,T8,b3⟩;have B3:=stay b3 (Bt (i:=7) (Bt (i:=6) (Bt (i:=5) (Bt (i:=4) (Bt (i:=3) D _) _) _) _) _);have C3:=stay b3 (Du (Du (Du (Du (Du C2 (p:=.a (w.heap.size+1) 3) Hd _) (p:=.a (w.heap.size+1) 4) Hd _) (p:=.a (w.heap.size+1) 5) Hd _) (p:=.a (w.heap.size+1) 6) Hd _) (p:=.a (w.heap.size+1) 7) Hd _);simp at B3;have b8:=(((((a7.setCell (p:=.a (w.heap.size+1) 3) Hd _).setCell (p:=.a (w.heap.size+1) 4) Hd _).setCell (p:=.a (w.heap.size+1) 5) Hd _).setCell (p:=.a (w.heap.size+1) 6) Hd _).setCell (p:=.a (w.heap.size+1) 7) Hd _).trans (b3.mono Fr);have T3:=(T2.kp (((((Kp.set (i:=3) D _).trans (Kp.set (i:=4) (Bt (i:=3) D _) _)).trans (Kp.set (i:=5) (Bt (i:=4) (Bt (i:=3) D _) _) _)).trans (Kp.set (i:=6) (Bt (i:=5) (Bt (i:=4) (Bt (i:=3) D _) _) _) _)).trans (Kp.set (i:=7) (Bt (i:=6) (Bt (i:=5) (Bt (i:=4) (Bt (i:=3) D _) _) _) _) _)) Fm).kp (Kp.of_below (e:=none) b3) Fm;have s3:=b8.size;have h0:=T8.mono (b':=w.heap.size) Fr;obtain⟨k0,k1,F,k3,k4,k5,k6,k7,k8,k9,a3,a4⟩:=El B3;obtain⟨f0,f1,f2,f3,f4,f5,f6,f7,f8,f9,b5,b6⟩:=Sd B3;obtain⟨L,N,O,Q,V,Y,Z,z7,z8,z9,a0,a1⟩:=El C3;obtain⟨g0,g1,g2,g3,g4,g5,g6,g7,g8,g9,g10,b7⟩:=Sd C3;simp at k0 k1 F k3 k4 k5 k6 k7 k8 k9 a3 a4 L N O Q V Y Z z7 z8 z9 a0 a1;go_wp2_with fail;refine(Bjh s c.2 l h _ g d2 Ck c5 c6 c7 d0).mono ?_;rw[Ba HM];rintro e w4 ⟨A,B,C,ml,rfl,h1,T9,b4⟩;have B4:=stay b4 B3;have C4:=stay b4 C3;have h2:=b8.trans (b4.mono s3);have T4:=T3.kp (Kp.of_below (e:=none) b4) Fm;have h3:=h0.kp (Kp.of_below (e:=none) b4) Fm;have h4:=T9.mono (b':=w.heap.size) s3;have h5:=Bc h1;obtain⟨k0,k1,F,k3,k4,k5,k6,k7,k8,k9,a3,a4⟩:=El B4;obtain⟨f0,f1,f2,f3,f4,f5,f6,f7,f8,f9,b5,b6⟩:=Sd B4;obtain⟨L,N,O,Q,V,Y,Z,z7,z8,z9,a0,a1⟩:=El C4;obtain⟨g0,g1,g2,g3,g4,g5,g6,g7,g8,g9,g10,b7⟩:=Sd C4;simp at k0 k1 F k3 k4 k5 k6 k7 k8 k9 a3 a4 L N O Q V Y Z z7 z8 z9 a0 a1;go_wp2_with fail;refine tb (.tuple #[.agg #[.i G,.i I,.s m p.toNat q,.i J,.i K,.i l,.i h,.string (s.extract (j+5) (j+5+n)),.s t v z,.s A B C,.i c.2,.i f.2],.i f.2]) (by simp[results,Bva,go_sem,L,N,O,Q,V,Y,Z,z7,z8,z9,a0,a1]) ?_;have F0:=Kp.set (b:=w.heap.size) (i:=8) B4 (.s t v z);have P0:=Bt (i:=8) B4 (.s t v z);have R0:=Du C4 (p:=.a (w.heap.size+1) 8) Hd (.s t v z);have F1:=F0.trans (Kp.set (i:=9) P0 (.s A B C));have P1:=Bt (i:=9) P0 (.s A B C);have R1:=Du R0 (p:=.a (w.heap.size+1) 9) Hd (.s A B C);have F2:=F1.trans (Kp.set (i:=10) P1 (.i c.2));have P2:=Bt (i:=10) P1 (.i c.2);have R2:=Du R1 (p:=.a (w.heap.size+1) 10) Hd (.i c.2);have F3:=F2.trans (Kp.set (i:=11) P2 (.i f.2));have P3:=Bt (i:=11) P2 (.i f.2);have R3:=Du R2 (p:=.a (w.heap.size+1) 11) Hd (.i f.2);have F4:=F3.trans (Kp.set (i:=0) R3 (.i G));have R4:=Bt (i:=0) R3 (.i G);have F5:=F4.trans (Kp.set (i:=1) R4 (.i I));have R5:=Bt (i:=1) R4 (.i I);have F6:=F5.trans (Kp.set (i:=2) R5 (.s m p.toNat q));have R6:=Bt (i:=2) R5 (.s m p.toNat q);have F7:=F6.trans (Kp.set (i:=3) R6 (.i J));have R7:=Bt (i:=3) R6 (.i J);have F8:=F7.trans (Kp.set (i:=4) R7 (.i K));have R8:=Bt (i:=4) R7 (.i K);have F9:=F8.trans (Kp.set (i:=5) R8 (.i l));have R9:=Bt (i:=5) R8 (.i l);have h6:=F9.trans (Kp.set (i:=6) R9 (.i h));have b9:=Bt (i:=6) R9 (.i h);have h7:=h6.trans (Kp.set (i:=7) b9 (.string (s.extract (j+5) (j+5+n))));have c0:=Bt (i:=7) b9 (.string (s.extract (j+5) (j+5+n)));have h8:=h7.trans (Kp.set (i:=8) c0 (.s t v z));have c1:=Bt (i:=8) c0 (.s t v z);have h9:=h8.trans (Kp.set (i:=9) c1 (.s A B C));have c3:=Bt (i:=9) c1 (.s A B C);have i0:=h9.trans (Kp.set (i:=10) c3 (.i c.2));have c4:=Bt (i:=10) c3 (.i c.2);have a5:=i0.trans (Kp.set (i:=11) c4 (.i f.2));have j1:=Bt (i:=11) c4 (.i f.2);refine⟨_,_,_,_,_,_,_,_,_,_,rfl,⟨T4.kp a5 Fm,Bed s j n d1,h3.kp a5 Fm,ml,Ba h5,h4.kp a5 Fm Fm⟩,?_⟩
 repeat (first|refine Bry ?_ Hd _|exact h2)
def Tn (s:TB)(i:Int)(w:TW)(e:Ending)(w':TW):Prop :=
 ∃x0 x1 a2 n2 c2 x3 x4 x5 x6 sb a8 n8 c8 a9 n9 c9 x10 x11,e=.returned (.tuple #[.agg #[.int .i64 x0,.int .i64 x1,.slice a2 n2 c2,.int .i64 x3,.int .i64 x4,.int .i64 x5,.int .i64 x6,.string sb,.slice a8 n8 c8,.slice a9 n9 c9,.int .i64 x10,.int .i64 x11],.int .i64 (Rf.mth s i).2]) /\
    (0<=(Rf.mth s i).2->[.int .i64 x0,.int .i64 x1,.slice a2 n2 c2,.int .i64 x3,.int .i64 x4,.int .i64 x5,.int .i64 x6,.string sb,.slice a8 n8 c8,.slice a9 n9 c9,.int .i64 x10,.int .i64 x11]=Ly (Rf.mth s i).1 ⟨.slice a2 n2 c2,sb,.slice a8 n8 c8,.slice a9 n9 c9⟩ /\
     Pn w' w.heap.size (Rf.mth s i).1 ⟨.slice a2 n2 c2,sb,.slice a8 n8 c8,.slice a9 n9 c9⟩)/\Below w.heap.size w w'
def Bcu(s:ByteArray)(i:Int)(w:TW)(hs:s.size<=15000)(g:0<=i)(l:i<=50000):Calls prog 138 #[.string s,.i i] w fun e m=>Tn s.data.toList i w e m:=by
 have q:s.size<=maxLen:=Pf;have Q:s.data.toList.length=s.size:=Hd;have fail:(Rf.mth s.data.toList i).2 = -1->(Calls prog 138 #[.string s,.i i] w fun e m =>
   ∃V Y C D F Z x4 x5 x6 G I J K L N O a0 a1,e=.r (.tuple #[.agg #[.i V,.i Y,.s C D F,.i Z,.i x4,.i x5,.i x6,.string G,.s I J K,.s L N O,.i a0,.i a1],.i (-1)])/\Bl w m)->Calls prog 138 #[.string s,.i i] w fun e m=>Tn s.data.toList i w e m:=by
  intro hm hc;refine hc.mono ?_;rintro e m ⟨V,Y,C,D,F,Z,x4,x5,x6,G,I,J,K,L,N,O,a0,a1,rfl,hb⟩;refine⟨V,Y,C,D,F,Z,x4,x5,x6,G,I,J,K,L,N,O,a0,a1,by rw[hm],fun h=>?_,hb⟩;rw[hm]at h;exact absurd h Fm
 have b1:=Rf.cnt_bd s.data.toList (i+2) 0 4 Ck;by_cases c:Rf.cnt s.data.toList (i+2) 0 4<0;·refine fail ?_ (Bma s i _ w q g l (Bc rfl) c);unfold Rf.mth;simp only;rw[Th c]
 generalize b:Rf.cnt s.data.toList (i+2) 0 4=p at *;have a5:=Rf.cnt_bd s.data.toList (i+3+2*p+2) 0 8 Ck;have a6:=Rf.cnt_bd s.data.toList (i+3+2*p+3) 0 8 Ck;have a7:=Rf.cnt_bd s.data.toList (i+3+2*p+4) 1 120 Ck;by_cases f:Rf.cnt s.data.toList (i+3+2*p+2) 0 8<0;·refine fail ?_ (Vp s i p _ _ _ w q g l (Bc b) (Bc rfl) (Bc rfl) (Bc rfl) Ck Ck (.inl f));unfold Rf.mth;simp only;rw[b,Pk c,Th f]
 by_cases t:Rf.cnt s.data.toList (i+3+2*p+3) 0 8<0;·refine fail ?_ (Vp s i p _ _ _ w q g l (Bc b) (Bc rfl) (Bc rfl) (Bc rfl) Ck Ck (.inr (.inl ⟨Ck,t⟩)));unfold Rf.mth;simp only;rw[b,Pk c,Pk f,Th t]
 by_cases v:Rf.cnt s.data.toList (i+3+2*p+4) 1 120<0;·refine fail ?_ (Vp s i p _ _ _ w q g l (Bc b) (Bc rfl) (Bc rfl) (Bc rfl) Ck Ck (.inr (.inr (.inl ⟨Ck,Ck,v⟩))));unfold Rf.mth;simp only;rw[b,Pk c,Pk f,Pk t,Th v]
 by_cases z:(s.size:Int)<i+3+2*p+5+Rf.cnt s.data.toList (i+3+2*p+4) 1 120;·refine fail ?_ (Vp s i p _ _ _ w q g l (Bc b) (Bc rfl) (Bc rfl) (Bc rfl) Ck Ck (.inr (.inr (.inr ⟨Ck,Ck,Ck,Ck,z⟩))));unfold Rf.mth;simp only;rw[b,Pk c,Pk f,Pk t,Pk v,Q,Th z]
 obtain⟨j,A⟩:=Brp (show 0<=i+3+2*p by omega);obtain⟨n,B⟩:=Brp (show 0<=Rf.cnt s.data.toList (i+3+2*p+4) 1 120 by omega);have b2:=Rf.hnds_le s.data.toList ((j:Int)+5+(n:Int));have a3:n<=120:=Ck;have a4:j+5+n<=s.size:=Ck;rw[A]at f t v B a5 a6 a7 z;by_cases hq:(Rf.hnds s.data.toList ((j:Int)+5+(n:Int))).2<0;·refine fail ?_ (Bl9 s i p _ _ j n _ w q g l (Bc b) A (Bc rfl) (Bc rfl) (Bc B) Ck Ck Ck Ck Ck Ck a3 a4 (Bc rfl) hq);unfold Rf.mth;simp only;rw[b,A,Pk c,Pk f,Pk t,Pk v,Q,Pk z,B,Th hq]
 have hx:Rf.mth s.data.toList i=(⟨⟨Rf.at' s.data.toList i,Rf.at' s.data.toList (i+1),Rf.tys s.data.toList (i+3) p.toNat,(Rf.at' s.data.toList (j:Int),Rf.at' s.data.toList ((j:Int)+1)),Rf.cnt s.data.toList ((j:Int)+2) 0 8,Rf.cnt s.data.toList ((j:Int)+3) 0 8,Rf.codeTo s.data.toList ((j:Int)+5) n,(Rf.hnds s.data.toList ((j:Int)+5+(n:Int))).1,
   (Rf.mps s.data.toList (Rf.hnds s.data.toList ((j:Int)+5+(n:Int))).2 (Rf.cnt s.data.toList ((j:Int)+2) 0 8) (Rf.cnt s.data.toList ((j:Int)+3) 0 8)).1⟩,(Rf.hnds s.data.toList ((j:Int)+5+(n:Int))).2,(Rf.mps s.data.toList (Rf.hnds s.data.toList ((j:Int)+5+(n:Int))).2 (Rf.cnt s.data.toList ((j:Int)+2) 0 8) (Rf.cnt s.data.toList ((j:Int)+3) 0 8)).2⟩,
   (Rf.mps s.data.toList (Rf.hnds s.data.toList ((j:Int)+5+(n:Int))).2 (Rf.cnt s.data.toList ((j:Int)+2) 0 8) (Rf.cnt s.data.toList ((j:Int)+3) 0 8)).2):=by
  unfold Rf.mth;simp only;rw[b,A,Pk c,Pk f,Pk t,Pk v,Q,Pk z,B,Pk hq];rfl
 unfold Tn;rw[hx];refine(Bl8 s i p _ _ _ _ _ _ _ j n _ _ w q g l (Bc b) A (Bc rfl) (Bc rfl) (Bc B) Ck Ck Ck Ck Ck Ck a3 a4 (Bc rfl) Ck Ck (Bc rfl) (Bc rfl) (Bc rfl) (Bc rfl) (Bc rfl) (Bc rfl)).mono ?_;rintro e m ⟨C,D,F,G,I,J,K,L,N,O,rfl,b0,hb⟩;exact⟨_,_,_,_,_,_,_,_,_,_,_,_,_,_,_,_,_,_,rfl,fun _=>⟨rfl,b0⟩,hb⟩
def Tryz.infoRClass:(prog.info? 225).map (fun i=>(i.zero,i.size,i.bytes))=some (some (.agg #[.i 0,.s none 0 0]),2,32):=Lt
def Tryz.infoRMethod:(prog.info? 109).map (fun i=>(i.zero,i.size,i.bytes))=some (some (.agg #[.i 0,.i 0,.s none 0 0,.i 0,.i 0,.i 0,.i 0,.string ⟨#[]⟩,.s none 0 0,.s none 0 0,.i 0,.i 0]),12,152):=Lt
def Rf.given:List Rd.Cls:=[⟨-1,[]⟩,⟨0,[]⟩,⟨1,[]⟩,⟨1,[]⟩,⟨1,[]⟩,⟨1,[]⟩,⟨1,[]⟩]
def Te:List (Rd.Cls × Value):=Rf.given.map fun c=>(c,.slice none 0 0)
def Bbj(w:TW):Calls prog 134 #[] w fun e g=>∃a c,e=.r (.s a 7 c)/\Hm g w.heap.size (.s a 7 c) Te/\Bl w g:=by
 obtain⟨q,t,z,A,B⟩:=Bsa Tryz.infoRClass;go_in;go_wp2
 go_loopw [1] (fun v wr=>∃k:Nat,2<=k/\k<=7/\wr.ownsRow w.heap.size 225 2 v k (Jt (Te.take k))/\lenOf v=k/\Bl w wr)
  (fun v _=>7-lenOf v)
 case atStart=>
  refine⟨2,Ck,Ck,?_,rfl,QN _⟩;exact⟨rfl,.inr ⟨w.heap.size,2,#[.i (-1),.s none 0 0,.i 0,.s none 0 0],rfl,Bru _,Be w _,Ck,Pf,rfl,rfl⟩⟩
 case round=>
  obtain⟨k,C,Z,b,a0,f⟩:=hrel;obtain⟨va,vc,rfl⟩:=Bh b;have D:=f.size;by_cases F:k<7
  ·generalize G:Jt (Te.take k)=I at b;have J:Hid (Jt (Te.take (k+1))=I++[.i 1,.s none 0 0]):=by
    unfold Hid;rw[<- G]
    match k,C,F with
    | 2,_,_=>rfl
    | 3,_,_=>rfl
    | 4,_,_=>rfl
    | 5,_,_=>rfl
    | 6,_,_=>rfl
   go_wp2_with (at_builtin;refine Br3 _ rfl _ _ 44 rfl w.heap.size 225 q _ 2 32 underlying44 t z A B rfl Fm _ _ _ rfl (b.alloc _) ⟨wr.heap.size,0,none⟩ 1 1 [.i 1,.s none 0 0] rfl rfl ?c1 ?c2 ?c3 ?c4 ?c5 ?_)
   case c1=>exact Dh _ _ _ _ rfl
   case c2=>intro u h;simp at h;rcases h with rfl|rfl<;>rfl
   case c3=>unfold maxLen;omega
   case c4=>omega
   case c5=>simp;omega
   intro v' K l L _;obtain⟨N,O,rfl⟩:=Bh l;have Q:K.ownsRow w.heap.size 225 2 (.s N (k+1) O) (k+1) (Jt (Te.take (k+1))):=by rw[Ba J];exact l
   have V:=(f.alloc D (O10 1 none 0 0)).grown L Fr (fun j Y=>(b.lt j Y).1);go_wp2;go_roundw
   case rel=>exact⟨k+1,Ck,Ck,Q,rfl,V⟩
   case measure=>simp[lenOf];omega
  obtain rfl:k=7:=Ck;go_wp2;go_ret;refine⟨_,_,rfl,⟨b,?_⟩,f⟩;intro p m;have:p.2=.s none 0 0/\p.1.fields=[]:=by
   simp[Te,Rf.given]at m;rcases m with rfl|rfl|rfl<;>exact⟨rfl,rfl⟩
  rw[this.1,this.2];exact Brw _ _ _ _
def Bqh(s:TB)(i L H:Int)(b:0<=L)(c:L<=8)(e:H<=8):(Rf.mps s i L H).2<=i+2200\/(Rf.mps s i L H).2<0:=by
 have f:∀k:Nat,(Rf.rep (Rf.mp s L H) k (i+1)).2<=i+1+34*(k:Int)\/(Rf.rep (Rf.mp s L H) k (i+1)).2<0:=by
  intro k
  induction k with
  | zero=>left;simp[Rf.rep]
  | succ k ih =>
   unfold Rf.rep
   split
   ·right;simp
   split
   ·right;simp
   rename_i g h;have:=(Bot (s:=s) (L:=L) (H:=H) (i:=(Rf.rep (Rf.mp s L H) k (i+1)).2) Ck e c b).1
   left
   simp only;omega
 unfold Rf.mps
 split
 ·right;simp
 have j:=Rf.cnt_bd s i 0 64 Ck;have:=f (Rf.cnt s i 0 64).toNat;omega
def Bqe(s:TB)(i:Int):(Rf.mth s i).2<=(s.length:Int)+2200:=by
 unfold Rf.mth;simp only
 split
 ·simp only;omega
 split
 ·simp only;omega
 split
 ·simp only;omega
 split
 ·simp only;omega
 split
 ·simp only;omega
 split
 ·simp only;omega
 simp only;generalize e:i+3+2*Rf.cnt s (i+2) 0 4=j at *;have b:=Rf.cnt_bd s (j+2) 0 8 Ck;have c:=Rf.cnt_bd s (j+3) 0 8 Ck;have f:=Rf.hnds_le s (j+5+Rf.cnt s (j+4) 1 120);have:=Bqh s (Rf.hnds s (j+5+Rf.cnt s (j+4) 1 120)).2 (Rf.cnt s (j+2) 0 8) (Rf.cnt s (j+3) 0 8) Ck b.2 c.2;omega
def Bqu(s:TB)(i:Int):(Rf.cls s i).2<=i+10\/(Rf.cls s i).2<0:=by
 unfold Rf.cls
 split
 ·right;simp
 have:=Rf.cnt_bd s (i+1) 0 4 Ck
 left
 simp only;omega
def L0 (s:TB)(w:TW)(e:Ending)(w':TW):Prop :=
 ∃a1 n1 c1 a2 n2 c2,e=.returned (.tuple #[.agg #[.slice a1 n1 c1,.slice a2 n2 c2],.bool ((Rf.fil s).2.2==(s.length:Int))]) /\
  ((Rf.fil s).2.2=(s.length:Int)->∃l1 l2,l1.map Prod.fst=Rf.given++(Rf.fil s).1/\Hm w' w.heap.size (.slice a1 n1 c1) l1/\l2.map Prod.fst=(Rf.fil s).2.1/\Ks w' w.heap.size (.slice a2 n2 c2) l2)/\Below w.heap.size w w'
def Yl(s:ByteArray)(w:TW)(x y n:Int)(b:s.size<=maxLen)(p:Hid (Rf.at' s.data.toList 0=x))(q:Hid (Rf.at' s.data.toList 1=y))(t:Hid (Rf.cnt s.data.toList 2 0 6=n))(h:(x != 83)=true\/((x != 83)=false/\(y != 77)=true)\/((x != 83)=false/\(y != 77)=false/\n<0)):Calls prog 87 #[.string s] w fun e v=>∃z A B C D F,e=.r (.tuple #[.agg #[.s z A B,.s C D F],.bool false])/\Bl w v:=by
 rcases h with f|⟨f,G⟩|⟨f,G,L⟩
 all_goals
  go_in;go_wp2_with fail;refine(Bbj _).mono ?_;rintro e N ⟨I,J,rfl,O,g⟩;have c:=stay g (Be w _);have i:=((Brm w.heap.size w).alloc (Bru _) _).trans (g.mono Hd);have K:=Sp c;obtain⟨j,l⟩:=cl2 c;obtain⟨Q,V⟩:=fr2 c;simp at j l;have Y:=i.size;go_wp2_with fail;refine(Ge s 0 _ b).mono ?_;rw[Ba p];rintro e m ⟨rfl,rfl⟩;go_wp2_with fail;refine(Ge s 1 _ b).mono ?_;rw[Ba q];rintro e m ⟨rfl,rfl⟩;go_wp2_with fail;refine(Dx s 2 0 6 _ b).mono ?_;rw[Ba t];rintro e m ⟨rfl,rfl⟩;go_wp2_with fail;refine tb (.tuple #[.agg #[.s I 7 J,.s none 0 0],.bool false]) (by simp[results,Bu6,go_sem,j,l,K]) ?_;exact⟨_,_,_,_,_,_,rfl,by repeat (first|refine Bs4 ?_ Fr _|refine Bry ?_ Hd _|exact i)⟩
def Bjf(s:ByteArray)(w:TW)(n:Int)(f4:s.size<=15000)(HX:Hid (Rf.at' s.data.toList 0=83))(HY:Hid (Rf.at' s.data.toList 1=77))(HN:Hid (Rf.cnt s.data.toList 2 0 6=n))(i7:0<=n)(i8:n<=6):Calls prog 87 #[.string s] w fun e w'=>L0 s.data.toList w e w':=by
 have hs:s.size<=maxLen:=Pf;have f5:s.data.toList.length=s.size:=Hd;obtain⟨i0,hi,h2,h3,h4⟩:=Bsa Tryz.infoRClass;obtain⟨j0,hj,h5,h6,h7⟩:=Bsa Tryz.infoRMethod
 -- the document's answer, by its stages
 have f6:Rf.fil s.data.toList=(if (Rf.rep (Rf.cls s.data.toList) n.toNat 3).2<0 then ([],[],-1)
   else if Rf.cnt s.data.toList (Rf.rep (Rf.cls s.data.toList) n.toNat 3).2 1 6<0 then ([],[],-1)
   else if (Rf.rep (Rf.mth s.data.toList) (Rf.cnt s.data.toList (Rf.rep (Rf.cls s.data.toList) n.toNat 3).2 1 6).toNat ((Rf.rep (Rf.cls s.data.toList) n.toNat 3).2+1)).2<0 then ([],[],-1)
   else ((Rf.rep (Rf.cls s.data.toList) n.toNat 3).1,(Rf.rep (Rf.mth s.data.toList) (Rf.cnt s.data.toList (Rf.rep (Rf.cls s.data.toList) n.toNat 3).2 1 6).toNat ((Rf.rep (Rf.cls s.data.toList) n.toNat 3).2+1)).1,(Rf.rep (Rf.mth s.data.toList) (Rf.cnt s.data.toList (Rf.rep (Rf.cls s.data.toList) n.toNat 3).2 1 6).toNat ((Rf.rep (Rf.cls s.data.toList) n.toNat 3).2+1)).2)):=by
  unfold Rf.fil;simp only;rw[Pk (by rw[Ba HX];decide),Pk (by rw[Ba HY];decide),Ba HN,Pk Ck]
 unfold L0;rw[f5];generalize hF:Rf.fil s.data.toList=F at *;have HF:=Bc f6;clear f6 hF;go_in;go_wp2_with fail;refine(Bbj _).mono ?_;rintro e w1 ⟨ga,gc,rfl,hg,c6⟩;have C1:=stay c6 (Be w _);have c7:=((Brm w.heap.size w).alloc (Bru _) _).trans (c6.mono Hd);have i9:=Sp C1;have s1:=c7.size;have f7:=hg.mono (b':=w.heap.size) Hd;go_wp2_with fail;refine(Ge s 0 _ hs).mono ?_;rw[Ba HX];rintro e w0 ⟨rfl,rfl⟩;go_wp2_with fail;refine(Ge s 1 _ hs).mono ?_;rw[Ba HY];rintro e w0 ⟨rfl,rfl⟩;go_wp2_with fail;refine(Dx s 2 0 6 _ hs).mono ?_;rw[Ba HN];rintro e w0 ⟨rfl,rfl⟩;have D0:=Be w1 (O11 ga 7 gc none 0 0);have f8:=c7.alloc s1 (O11 ga 7 gc none 0 0);have C2:=Bg C1 (O11 ga 7 gc none 0 0);have f9:=f7.kp (Kp.alloc (e:=none) w1 (O11 ga 7 gc none 0 0)) Fm Fm;clear hg f7 c6 c7 C1;go_wp2
 go_loopw [8,9] (fun p j wr=>∃(k:Nat) (q:Int) (v:TX) (l:List (Rd.Cls×Value)),(k:Int)<=n/\j=.i k/\p=.i q/\0<=q/\q<=3+10*(k:Int)/\l.length=7+k/\Hid (Rf.rep (Rf.cls s.data.toList) k 3=((l.map Prod.fst).drop 7,q)/\(l.map Prod.fst).take 7=Rf.given)/\Hm wr w.heap.size v l /\
   wr.heap[w1.heap.size]?=some (.cells #[v,.s none 0 0] 47 (0,0))/\wr.heap[w.heap.size]?=some (O11 none 0 0 none 0 0)/\Bl w wr)
  (fun _ j _=>n.toNat-(intOf j).toNat)
 case atStart=>exact⟨0,3,_,Te,Ck,rfl,rfl,Ck,Ck,rfl,⟨rfl,rfl⟩,f9,D0,C2,f8⟩
 case round=>
  clear f9 D0 C2 f8;obtain⟨k,q,v,l,hk,rfl,rfl,b6,j1,b4,HQ,a0,D,A,G⟩:=hrel;obtain⟨L,vc,rfl⟩:=Bh a0.1;have a5:=G.size;have g2:=Sp D;have g3:=Sp A;have b2:=Bc b4;have j2:l.length<=13:=Ck;clear b4;by_cases h8:(k:Int)<n
  ·generalize g:Rf.cls s.data.toList q=c at *;have d6:=Bqu s.data.toList q;rw[g]at d6;by_cases b7:c.2<0
   ·have b5:F=([],[],-1):=by
     rw[Ba HF,Yn (k:=k) (by rw[(Ba HQ).1];exact b6) (by rw[(Ba HQ).1];rw[g];exact b7) _ Ck,Th Fm]
    have a6:=Bc b5;have Hc:=Bc g;clear b5 g;go_wp2_with fail;refine(Zk s q _ hs b6 Ck).mono ?_;rw[Ba Hc];rintro e I ⟨x,ua,un,uc,rfl,_,f⟩;have J:=G.trans (f.mono a5);have s3:=J.size;have B:=stay f D;have K:=stay f A;have l3:=Sp B;have l4:=Sp K;obtain⟨N,d1⟩:=cl2 B;obtain⟨O,Q⟩:=cl2 K;obtain⟨g0,g1⟩:=fr2 K;simp at N d1 O Q;go_wp2_with fail;refine tb (.tuple #[.agg #[.s L l.length vc,.s none 0 0],.bool false]) (by simp[results,Bu6,go_sem,O,Q,l4]) ?_;rw[Ba a6];refine⟨L,l.length,vc,none,0,0,?_,fun h=>?_,by repeat (first|refine Bs4 ?_ Fr _|refine Bry ?_ Hd _|exact J)⟩
    ·rw[show ((-1:Int)==(s.size:Int))=false by first|(simp;done)|(simp;omega)]
    exfalso;simp only at h;omega
   have HE:Hid (Rf.rep (Rf.cls s.data.toList) (k+1) 3=((l.map Prod.fst).drop 7++[c.1],c.2)):=Rf.rep_step (Ba HQ).1 b6 g Ck;have Hc:=Bc g;clear g;go_wp2_with fail;refine(Zk s q _ hs b6 Ck).mono ?_;rw[Ba Hc];rintro e I ⟨x,ua,un,uc,rfl,hx,f⟩;obtain⟨rfl,g4⟩:=hx Ck;have J:=G.trans (f.mono a5);have s3:=J.size;have B:=stay f D;have K:=stay f A;have l3:=Sp B;have b3:=a0.kp (Kp.of_below (e:=none) f) Fm Fm;have T3:=g4.mono a5;have N:=Bb B 0;have f0:=Bk B 0;simp at N;have h9:=Bc b3.2;have a1:=b3.1;clear a0 b3 g4 f D A G hx;go_wp2_with (at_builtin;refine Br3 _ rfl _ _ 44 rfl w.heap.size 225 i0 _ 2 32 underlying44 hi h2 h3 h4 rfl Fm _ _ _ rfl ((a1.alloc _).alloc _) ⟨I.heap.size+1,0,none⟩ 1 1 [.i c.1.above,.s ua un uc] rfl rfl ?c1 ?c2 ?c3 ?c4 ?c5 ?_)
   case c1=>exact Dh _ _ _ _ Hd
   case c2=>intro u hu;simp at hu;rcases hu with rfl|rfl<;>rfl
   case c3=>unfold maxLen;omega
   case c4=>omega
   case c5=>simp;omega
   intro v' w5 b0 b1 _;obtain⟨V,Y,rfl⟩:=Bh b0;have d7:=((J.alloc s3 _).alloc Fr _).grown b1 Fr (fun j hj=>(a1.lt j hj).1);have hK:=((Kp.alloc (e:=some 225) (b:=0) _ _).trans (Kp.alloc _ _)).trans (Kp.of_grown b1 ((a1.alloc _).alloc _));have a3:=hK _ _ _ (Bsb _) B Fm;have d8:=hK _ _ _ (Bsb _) K Fm;have x1:=Bb a3 0;have f1:=Bk a3 0;simp at x1;have a7:Kp (some 225) w.heap.size I w5:=fun k cs t _ g ht=>hK k cs t (Bsb _) g ht;have Z:=Kp.set (b:=w.heap.size) (i:=0) a3 (.s V (l.length+1) Y);have d9:Hm (w5.setCell (.a w1.heap.size 0) (.s V (l.length+1) Y)) w.heap.size (.s V (l.length+1) Y) (l++[(c.1,.s ua un uc)]):=by
    refine⟨?_,?_⟩
    ·rw[Yf,Ws];exact Dc b0 Z Fm
    intro p C;rw[Bs1]at C;rcases C with C|C
    ·exact((Ba h9 p C).kp a7 Fm).kp Z Fm
    simp only[Bth]at C;subst C;exact(T3.kp a7 Fm).kp Z Fm
   have HD:=Bt (i:=0) a3 (.s V (l.length+1) Y);have HC:=Du d8 (p:=.a w1.heap.size 0) Fr (.s V (l.length+1) Y);have g5:Hid (7<=(l.map Prod.fst).length):=by unfold Hid;rw[Br1,Ba b2];omega
   clear b1 a1 b0 hK a7 B K J Z T3;go_wp2;go_roundw
   case rel=>
    refine⟨k+1,_,_,_,Ck,Mg,rfl,Ck,Ck,by rw[Ws,Ba b2];simp;omega,⟨?_,?_⟩,d9,HD,HC,d7.setCell Fr _⟩
    ·rw[Ba HE,Bse,Bt4 (Ba g5)];rfl
    rw[Bse,Buo (Ba g5)];exact(Ba HQ).2
   case measure=>simp[intOf];omega
  obtain rfl:k=n.toNat:=Ck;have g6:Rf.rep (Rf.cls s.data.toList) n.toNat 3=((l.map Prod.fst).drop 7,q):=(Ba HQ).1;generalize hm:Rf.cnt s.data.toList q 1 6=m at *;have g7:=Rf.cnt_bd s.data.toList q 1 6 Ck;rw[hm]at g7;obtain⟨j3,j4⟩:=g7;have a4:=Ba HF;rw[g6,Pk Mc]at a4;simp only at a4;rw[hm]at a4;have HM:=Bc hm;have i1:=Bc (Ba HQ).2;clear hm g6 HQ HF b2;by_cases b7:m<0
  ·rw[Th b7]at a4;have a6:=Bc a4;clear a4;obtain⟨N,d1⟩:=cl2 D;obtain⟨O,Q⟩:=cl2 A;obtain⟨g0,g1⟩:=fr2 A;simp at N d1 O Q;go_wp2_with fail;refine(Dx s q 1 6 _ hs).mono ?_;rw[Ba HM];rintro e w0 ⟨rfl,rfl⟩;go_wp2_with fail;refine tb (.tuple #[.agg #[.s L l.length vc,.s none 0 0],.bool false]) (by simp[results,Bu6,go_sem,O,Q]) ?_;rw[Ba a6];refine⟨L,l.length,vc,none,0,0,?_,fun h=>?_,by repeat (first|refine Bry ?_ Hd _|exact G)⟩
   ·rw[show ((-1:Int)==(s.size:Int))=false by first|(simp;done)|(simp;omega)]
   exfalso;simp only at h;omega
  rw[Pk b7]at a4;have a6:=Bc a4;clear a4;go_wp2_with fail;refine(Dx s q 1 6 _ hs).mono ?_;rw[Ba HM];rintro e w0 ⟨rfl,rfl⟩;go_wp2
  go_loopw [8,12] (fun p j I=>∃(k:Nat) (t:Int) (v:TX) (z:List (Rf.Mth×K0)),(k:Int)<=m/\j=.i k/\p=.i t/\0<=t/\t<=20000/\z.length=k/\Hid (Rf.rep (Rf.mth s.data.toList) k (q+1)=(z.map Prod.fst,t))/\Ks I w.heap.size v z/\Hm I w.heap.size (.s L l.length vc) l /\
    I.heap[w1.heap.size]?=some (.cells #[.s L l.length vc,v] 47 (0,0))/\I.heap[w.heap.size]?=some (O11 none 0 0 none 0 0)/\Bl w I)
   (fun _ j _=>m.toNat-(intOf j).toNat)
  case atStart=>exact⟨0,_,_,[],Ck,rfl,rfl,Ck,Ck,rfl,rfl,⟨Brw _ _ _ _,Hd⟩,a0,D,A,G⟩
  case round=>
   clear a0 D A G g2 g3 a5;obtain⟨k,t,v,z,hk,rfl,rfl,b8,j5,b4,HT,b9,a0,D,A,G⟩:=hrel;obtain⟨vb,vd,rfl⟩:=Bh b9.1;have a5:=G.size;have g2:=Sp D;have g3:=Sp A;have b2:=Bc b4;have j6:z.length<=6:=Ck;clear b4;by_cases h8:(k:Int)<m
   ·generalize g:Rf.mth s.data.toList t=c at *;have d6:=Bqe s.data.toList t;rw[g,f5]at d6;by_cases i2:c.2<0
    ·have b5:F=([],[],-1):=by
      rw[Ba a6,Yn (k:=k) (by rw[Ba HT];exact b8) (by rw[Ba HT];rw[g];exact i2) _ Ck,Th Fm]
     have f2:=Bc b5;have Hc:=Bc g;clear b5 g a6;go_wp2_with fail;refine(Bcu s t _ f4 b8 Ck).mono ?_;unfold Tn;rw[Ba Hc];rintro e I ⟨x0,x1,a2,n2,c2,x3,x4,x5,x6,sb,a8,n8,c8,a9,n9,c9,g8,g9,rfl,_,f⟩;have J:=G.trans (f.mono a5);have s3:=J.size;have B:=stay f D;have K:=stay f A;have l3:=Sp B;have l4:=Sp K;obtain⟨N,d1⟩:=cl2 B;obtain⟨O,Q⟩:=cl2 K;obtain⟨g0,g1⟩:=fr2 K;simp at N d1 O Q;go_wp2_with fail;refine tb (.tuple #[.agg #[.s L l.length vc,.s vb z.length vd],.bool false]) (by simp[results,Bu6,go_sem,O,Q,l4]) ?_;rw[Ba f2];refine⟨L,l.length,vc,vb,z.length,vd,?_,fun h=>?_,by repeat (first|refine Bs4 ?_ Fr _|refine Bry ?_ Hd _|exact J)⟩
     ·rw[show ((-1:Int)==(s.size:Int))=false by first|(simp;done)|(simp;omega)]
     exfalso;simp only at h;omega
    have HE:Hid (Rf.rep (Rf.mth s.data.toList) (k+1) (q+1)=(z.map Prod.fst++[c.1],c.2)):=Rf.rep_step (Ba HT) b8 g Ck;have Hc:=Bc g;clear g;go_wp2_with fail;refine(Bcu s t _ f4 b8 Ck).mono ?_;unfold Tn;rw[Ba Hc];rintro e I ⟨x0,x1,a2,n2,c2,x3,x4,x5,x6,sb,a8,n8,c8,a9,n9,c9,g8,g9,rfl,hx,f⟩;obtain⟨Ev,h0⟩:=hx Ck;have i3:=Bc Ev;have J:=G.trans (f.mono a5);have s3:=J.size;have B:=stay f D;have K:=stay f A;have l3:=Sp B;have f3:=b9.kp (Kp.of_below (e:=none) f) Fm Fm Fm Fm;have b3:=a0.kp (Kp.of_below (e:=none) f) Fm Fm;have T3:=h0.mono a5;have N:=Bb B 1;have f0:=Bk B 1;simp at N;have i4:=Bc f3.2;have a1:=f3.1;clear b9 f3 h0 f D A G hx Ev a0;go_wp2_with (at_builtin;refine Br3 _ rfl _ _ 45 rfl w.heap.size 109 j0 _ 12 152 underlying45 hj h5 h6 h7 rfl Fm _ _ _ rfl ((a1.alloc _).alloc _) ⟨I.heap.size+1,0,none⟩ 1 1 [.i x0,.i x1,.s a2 n2 c2,.i x3,.i x4,.i x5,.i x6,.string sb,.s a8 n8 c8,.s a9 n9 c9,.i g8,.i g9] rfl rfl ?d1 ?d2 ?d3 ?d4 ?d5 ?_)
    case d1=>exact Dh _ _ _ _ Hd
    case d2=>intro u hu;simp at hu;rcases hu with rfl|rfl|rfl|rfl|rfl|rfl|rfl|rfl|rfl|rfl|rfl|rfl<;>rfl
    case d3=>unfold maxLen;omega
    case d4=>omega
    case d5=>simp;omega
    intro v' w5 b0 b1 _;obtain⟨V,Y,rfl⟩:=Bh b0;have d7:=((J.alloc s3 _).alloc Fr _).grown b1 Fr (fun j hj=>(a1.lt j hj).1);have hK:=((Kp.alloc (e:=some 109) (b:=0) _ _).trans (Kp.alloc _ _)).trans (Kp.of_grown b1 ((a1.alloc _).alloc _));have a3:=hK _ _ _ (Bsb _) B Fm;have d8:=hK _ _ _ (Bsb _) K Fm;have i5:=Bb a3 1;have f1:=Bk a3 1;simp at i5;have a7:Kp (some 109) w.heap.size I w5:=fun k cs t _ g ht=>hK k cs t (Bsb _) g ht;have Z:=Kp.set (b:=w.heap.size) (i:=1) a3 (.s V (z.length+1) Y);have i6:Ks (w5.setCell (.a w1.heap.size 1) (.s V (z.length+1) Y)) w.heap.size (.s V (z.length+1) Y) (z++[(c.1,⟨.s a2 n2 c2,sb,.s a8 n8 c8,.s a9 n9 c9⟩)]):=by
     refine⟨?_,?_⟩
     ·rw[Bbz,Ws,<- Ba i3];exact Dc b0 Z Fm
     intro p C;rw[Bs1]at C;rcases C with C|C
     ·exact((Ba i4 p C).kp a7 Fm Fm Fm).kp Z Fm Fm Fm
     simp only[Bth]at C;subst C;exact(T3.kp a7 Fm Fm Fm).kp Z Fm Fm Fm
    have d9:=(b3.kp a7 Fm Fm).kp Z Fm Fm;have HD:=Bt (i:=1) a3 (.s V (z.length+1) Y);have HC:=Du d8 (p:=.a w1.heap.size 1) Fr (.s V (z.length+1) Y);clear b1 a1 b0 hK a7 B K J Z T3 b3;go_wp2;go_roundw
    case rel=>
     refine⟨k+1,_,_,_,Ck,Mg,rfl,Ck,Ck,by rw[Ws,Ba b2];rfl,?_,i6,d9,HD,HC,d7.setCell Fr _⟩;unfold Hid;rw[Ba HE,Bse];rfl
    case measure=>simp[intOf];omega
   obtain rfl:k=m.toNat:=Ck;have h1:Rf.rep (Rf.mth s.data.toList) m.toNat (q+1)=(z.map Prod.fst,t):=Ba HT;have c0:=Ba a6;rw[h1,Pk Mc]at c0;simp only at c0;have f2:=Bc c0;clear c0 h1 a6 b2;obtain⟨N,d1⟩:=cl2 D;obtain⟨O,Q⟩:=cl2 A;obtain⟨g0,g1⟩:=fr2 A;simp at N d1 O Q;go_wp2_with fail;refine tb (.tuple #[.agg #[.s L l.length vc,.s vb z.length vd],.bool (t==(s.size:Int))]) (by simp[results,Bu6,go_sem,O,Q]) ?_;rw[Ba f2];have k1:=(Kp.set (b:=w.heap.size) (i:=0) A (.s L l.length vc)).trans (Kp.set (i:=1) (Bt (i:=0) A (.s L l.length vc)) (.s vb z.length vd));refine⟨L,l.length,vc,vb,z.length,vd,rfl,fun _=>⟨l,?_,a0.kp k1 Fm Fm,z,rfl,b9.kp k1 Fm Fm Fm Fm⟩,by repeat (first|refine Bry ?_ Hd _|exact G)⟩
   rw[<- Ba i1,Bua]
def Bjg(s:ByteArray)(w:TW)(z:s.size<=15000):Calls prog 87 #[.string s] w fun e c=>L0 s.data.toList w e c:=by
 have g:s.size<=maxLen:=Pf;have i:Rf.fil s.data.toList=([],[],-1)->(Calls prog 87 #[.string s] w fun e c=>∃j l m p q t,e=.r (.tuple #[.agg #[.s j l m,.s p q t],.bool false])/\Bl w c) ->
   Calls prog 87 #[.string s] w fun e c=>L0 s.data.toList w e c:=by
  intro A B;refine B.mono ?_;rintro e c ⟨j,l,m,p,q,t,rfl,C⟩;unfold L0;rw[A];refine⟨j,l,m,p,q,t,?_,fun h=>?_,C⟩
  ·rw[show ((-1:Int)==(s.data.toList.length:Int))=false by rw[Bvj];omega]
  exfalso;simp only at h;omega
 have D:=Rf.cnt_bd s.data.toList 2 0 6 Ck;by_cases b:Rf.at' s.data.toList 0=83
 ·by_cases f:Rf.at' s.data.toList 1=77
  ·by_cases v:Rf.cnt s.data.toList 2 0 6<0;·refine i ?_ (Yl s w 83 77 _ g (Bc b) (Bc f) (Bc rfl) (.inr (.inr ⟨Fm,Fm,v⟩)));unfold Rf.fil;rw[Pk (fun h=>h b),Pk (fun h=>h f),Th v]
   exact Bjf s w _ z (Bc b) (Bc f) (Bc rfl) Ck D.2
  refine i ?_ (Yl s w 83 _ _ g (Bc b) (Bc rfl) (Bc rfl) (.inr (.inl ⟨Fm,by simpa using f⟩)));unfold Rf.fil;rw[Pk (fun h=>h b),Th f]
 refine i ?_ (Yl s w _ _ _ g (Bc rfl) (Bc rfl) (Bc rfl) (.inl (by simpa using b)));unfold Rf.fil;rw[Th b]
def Tr.rb(l:TI)(b:Int):Nat->Int->Bool
 | 0,_=>false
 | n+1,a=>if a=b then true else if Tr.hasB l a=false then false else Tr.rb l b n (l.getD a.toNat 0)
def Tr.rbel(l:TI)(a b:Int):Bool:=Tr.rb l b (l.length+1) a
def Ct (l:List (Rd.Cls × Value)):List Int:=(l.map Prod.fst).map Rd.Cls.above
def Jn(l:List (Rd.Cls×Value)):(Ct l).length=l.length:=by simp[Ct]
def Bi5(l:List (Rd.Cls×Value))(k:Nat)(h:k<l.length):(Ct l).getD k 0=l[k].1.above:=by
 simp[Ct,Vm,h]
def L9(T:TI)(a b:TA)(c f g:Nat)(x:Int)(w:TW):Calls prog 89 #[.agg #[.s a T.length c,.s b f g],.i x] w fun e h=>e=.r (.bool (Tr.hasB T x))/\Bl w h:=by
 unfold Tr.hasB;by_cases j:0<=x;·go_in;go_wp2;go_ret;exact⟨by simp[j],QN _⟩
 go_in;go_wp2;go_ret;exact⟨Fr,QN _⟩
def Vo(T:TI)(a j:TA)(c l m:Nat)(k n:Int)(w:TW):Calls prog 90 #[.agg #[.s a T.length c,.s j l m],.agg #[.i k,.i n]] w fun e z=>e=.r (.bool (Tr.plainB T k n))/\Bl w z:=by
 unfold Tr.plainB;generalize A:Tr.hasB T n=B;have t:=Bc A;by_cases p:k=1
 ·rw[Th p];subst p;cases C:(n==0)
  all_goals
   go_in;go_wp2_with fail;refine(L9 T a j c l m n _).mono ?_;rw[Ba t];rintro e v ⟨rfl,b⟩;have f:=stay b (Bx w _ _);obtain⟨g,h⟩:=cl2 f;simp at g h;go_wp2;go_ret;exact⟨rfl,(Bu _ _ _).trans (b.mono Fr)⟩
 rw[Pk p];have D:(k==1)=false:=by simp[p]
 by_cases q:k=3
 ·rw[Th q];subst q;cases B
  all_goals
   go_in;go_wp2_with fail;refine(L9 T a j c l m n _).mono ?_;rw[Ba t];rintro e v ⟨rfl,b⟩;have f:=stay b (Bx w _ _);obtain⟨g,h⟩:=cl2 f;simp at g h;go_wp2;go_ret;exact⟨rfl,(Bu _ _ _).trans (b.mono Fr)⟩
 rw[Pk q];have F:(k==3)=false:=by simp[q]
 go_in;go_wp2_with fail;refine(L9 T a j c l m n _).mono ?_;rw[Ba t];rintro e v ⟨rfl,b⟩;have f:=stay b (Bx w _ _);obtain⟨g,h⟩:=cl2 f;simp at g h;go_wp2;go_ret;exact⟨rfl,(Bu _ _ _).trans (b.mono Fr)⟩
def Bp7{z:TI}{a B:Int}{n:Nat}(h:a=B):Tr.rb z B (n+1) a=true:=by simp[Tr.rb,h]
def Bp4{z:TI}{a B:Int}{n:Nat}(h:a≠B)(c:Tr.hasB z a=false):Tr.rb z B (n+1) a=false:=by simp[Tr.rb,h,c]
def Bq6{z:TI}{a B:Int}{n:Nat}(h:a≠B)(c:Tr.hasB z a=true):Tr.rb z B (n+1) a=Tr.rb z B n (z.getD a.toNat 0):=by simp[Tr.rb,h,c]
def J9(b j:TA)(c t v N:Nat)(l:List (Rd.Cls×Value))(x y:Int)(w:TW)(hl:l.length<=1000)(O:Hm w N (.s b l.length c) l):Calls prog 91 #[.agg #[.s b l.length c,.s j t v],.i x,.i y] w fun e Q=>e=.r (.bool (Tr.rbel (Ct l) x y))/\Bl w Q:=by
 unfold Tr.rbel;rw[Jn];generalize V:Tr.rb (Ct l) y (l.length+1) x=r;have z:Hid (Tr.rb (Ct l) y (l.length+1-0) x=r):=V;have Y:Bl w (w.alloc (O11 b l.length c j t v)):=QN _;have Z:=Be w (O11 b l.length c j t v);go_in;go_wp2
 go_loopw [1,7] (fun p i wr=>∃(k:Nat) (q:Int),k<=l.length+1/\i=.i k/\p=.i q/\Hid (Tr.rb (Ct l) y (l.length+1-k) q=r)/\Bl w wr /\
   wr.heap[w.heap.size]?=some (O11 b l.length c j t v))
  (fun _ i _=>l.length+1-(intOf i).toNat)
 case atStart=>exact⟨0,_,Ck,rfl,rfl,z,Y,Z⟩
 case round=>
  obtain⟨k,q,hk,rfl,rfl,z,A,G⟩:=hrel;obtain⟨c0,d1⟩:=cl2 G;simp at c0 d1;have I:=A.size;by_cases a5:k<=l.length
  ·by_cases B:q=y
   ·have a0:(q==y)=true:=by simp[B]
    have C:r=true:=by rw[<- Ba z,show l.length+1-k=(l.length-k)+1 by omega];exact Bp7 B
    have f:=Bc C;go_wp2;go_ret;exact⟨by rw[Ba f];rfl,A⟩
   have a0:(q==y)=false:=by simp[B]
   cases h:Tr.hasB (Ct l) q with
   | false =>
    have C:r=false:=by rw[<- Ba z,show l.length+1-k=(l.length-k)+1 by omega];exact Bp4 B h
    have f:=Bc C;have F:=Bc h;go_wp2_with fail;refine(show Calls prog _ _ _ _ from by have:=L9 (Ct l) b j c t v q wr;rw[Jn]at this;exact this).mono ?_;rw[Ba F];rintro e w2 ⟨rfl,D⟩;go_wp2;go_ret;exact⟨by rw[Ba f];rfl,A.trans (D.mono I)⟩
   | true =>
    have hq:0<=q/\q<(l.length:Int):=by
     unfold Tr.hasB at h;rw[Jn]at h;simpa using h
    obtain⟨m,hm⟩:=Brp hq.1;subst hm;have J:m<l.length:=Ck;have f:Hid (Tr.rb (Ct l) y (l.length+1-(k+1)) l[m].1.above=r):=by
     unfold Hid;rw[<- Ba z,show l.length+1-k=(l.length+1-(k+1))+1 by omega,Bq6 B h,Brx,Bi5 l m J]
    have F:=Bc h;go_wp2_with fail;refine(show Calls prog _ _ _ _ from by have:=L9 (Ct l) b j c t v (m:Int) wr;rw[Jn]at this;exact this).mono ?_;rw[Ba F];rintro e w2 ⟨rfl,D⟩;have K:=A.trans (D.mono I);have L:=stay D G;obtain⟨g,hg,a6,_,a3⟩:=Cf (Dc O.1 (Kp.of_below (e:=none) K) Fm) Ck;obtain⟨e1,e2,e3⟩:=Nm l m J;have x0:=a3 (m*2) Ck;rw[e1]at x0;have a4:=Bb L 0;simp at a4;generalize l[m].1.above=ab at *;subst hg;go_wp2;go_roundw
    case rel=>exact⟨k+1,_,Ck,Mg,rfl,f,K,L⟩
    case measure=>simp[intOf];omega
  have C:r=false:=by rw[<- Ba z,show l.length+1-k=0 by omega];rfl
  have f:=Bc C;go_wp2;go_ret;exact⟨by rw[Ba f];rfl,A⟩
namespace Tr
def Bp5(l:TI){c:Int}(e:0<=c)(n:Nat):rb l c n (-1)=false:=by
 cases n with
 | zero=>rfl
 | succ k =>
  unfold rb;rw[Pk Ck,Th (by simp[hasB])]
def Bpe{z:TI}(h:Ok z){a B:Int}(g:0<a)(c:a<(z.length:Int))(i:0<=B)(j:a≠B):At z a B<->At z (ov z a) B:=by
 constructor
 ·rintro (e|e)
  ·exact absurd e.symm j
  rcases Bh7 h Ck i c e with f|f
  ·exact .inl f
  exact .inr f
 rintro (e|e)
 ·right;rw[e];exact Bei h g c
 right;exact Yg h (Bdb h g c) i c (Bei h g c) e
def Bp6{z:TI}(h:Ok z){c:Int}(i:0<=c)(n:Nat):∀{a:Int},0<=a->a<(z.length:Int)->a<(n:Int)->(rb z c n a=true<->At z a c):=by
 induction n with
 | zero=>intro a m _ q;omega
 | succ k ih =>
  intro a m j v;unfold rb;by_cases f:a=c;·rw[Th f];exact⟨fun _=>.inl f.symm,fun _=>rfl⟩
  rw[Pk f];have s:hasB z a=true:=by simp[hasB];omega
  rw[s,Pk Hd];have p:ov z a=z.getD a.toNat 0:=by unfold ov;rw[Pk Ck,Pk Ck]
  rw[<- p];by_cases t:a=0
  ·subst t;have:ov z 0 = -1:=by
    have:=Bcf h (show (0:Int)<=0 by omega);have q:-1<=ov z 0:=by
     rw[p];have:=h.2.1;simpa using (by rw[this];omega:(-1:Int)<=z.getD 0 0)
    omega
   rw[this,Bp5 z i]
   constructor
   ·intro g;cases g
   rintro (e|e)
   ·omega
   have:=below_lt h i j e;omega
  have u1:=Bcf h m;have u2:=Bdb h Ck j;rw[ih u2 Ck Ck];exact(Bpe h Ck j i f).symm
def rbel_iff{z:TI}(h:Ok z){a b:Int}(c:0<=a)(e:a<(z.length:Int))(f:0<=b):rbel z a b=true<->At z a b :=
 Bp6 h f (z.length+1) c e Ck
def rfits(l:TI)(k n k' n':Int):Bool :=
 if k=k'/\n=n' then true else if k'=0 then true else if k=2 then (k' == 3) else if k=3 then (k' == 3)&&rbel l n n' else false
def rfits_eq{z:TI}(h:Ok z){k n c f:Int}(s:Arg z k n)(t:Arg z c f):rfits z k n c f=fitsB z k n c f:=by
 unfold rfits fitsB;by_cases i:k=c/\n=f;·rw[Th i,Th i]
 rw[Pk i,Pk i];by_cases p:c=0;·rw[Th p,Th p]
 rw[Pk p,Pk p];by_cases j:c=3
 ·have v:¬c≠3:=fun g=>g j;rw[Pk v];by_cases q:k=2;·rw[Th q,Th q];simp[j]
  rw[Pk q,Pk q];by_cases m:k=3;·rw[Th m,Th m];subst j m;have e:=rbel_iff h (a:=n) (b:=f) (by unfold Arg at s;omega) (by unfold Arg at s;omega) (by unfold Arg at t;omega);have:below z n f=true<->At z n f:=⟨.inr,fun g=>g.elim (fun e=>absurd ⟨rfl,e.symm⟩ i) id⟩;rw[show ((3:Int)==3)=true from rfl,Bts];exact Bool.eq_iff_iff.2 (e.trans this.symm)
  rw[Pk m,Pk m]
 rw[Th j];have:(c==3)=false:=by simp[j]
 rw[this];simp
end Tr
def Bjk(t z:TA)(v A B C:Nat)(l:List (Rd.Cls×Value))(k n g c:Int)(w:TW)(I:l.length<=1000)(J:Hm w C (.s t l.length v) l):Calls prog 178 #[.agg #[.s t l.length v,.s z A B],.agg #[.i k,.i n],.agg #[.i g,.i c]] w fun e L=>e=.r (.bool (Tr.rfits (Ct l) k n g c))/\Bl w L:=by
 unfold Tr.rfits;by_cases f:k=g/\n=c;·rw[Th f];obtain⟨rfl,rfl⟩:=f;go_in;go_wp2;go_ret;exact⟨rfl,Em _ _ _ _⟩
 rw[Pk f];by_cases j:g=0
 ·rw[Th j];subst j;by_cases h:k=0;·subst h;have b:¬n=c:=fun b=>f ⟨rfl,b⟩;go_in;go_wp2;go_ret;exact⟨rfl,Em _ _ _ _⟩
  clear f;go_in;go_wp2;go_ret;exact⟨rfl,Em _ _ _ _⟩
 rw[Pk j];have V:(g==0)=false:=by simp[j]
 by_cases m:k=2
 ·rw[Th m];subst m;by_cases h:(2:Int)=g;·subst h;have b:¬n=c:=fun b=>f ⟨rfl,b⟩;go_in;go_wp2;go_ret;exact⟨rfl,Em _ _ _ _⟩
  clear f j;go_in;go_wp2;go_ret;exact⟨rfl,Em _ _ _ _⟩
 rw[Pk m];by_cases p:k=3
 ·rw[Th p];subst p;generalize N:Tr.rbel (Ct l) n c=r;have K:=Bc N;by_cases h:(3:Int)=g;·subst h;have b:¬n=c:=fun b=>f ⟨rfl,b⟩;go_in;go_wp2_with fail;refine(J9 t z v A B C l n c _ I (J.kp (Kp.of_below (e:=none) (Em _ _ _ _)) Fm Fm)).mono ?_;rw[Ba K];rintro e O ⟨rfl,q⟩;have D:=stay q (Nz w _ _ _).2.2;obtain⟨F,G⟩:=cl2 D;simp at F G;go_wp2;go_ret;exact⟨rfl,(Em _ _ _ _).trans (q.mono Fr)⟩
  have Q:(g==3)=false:=Fr;rw[Q];go_in;go_wp2_with fail;refine(J9 t z v A B C l n c _ I (J.kp (Kp.of_below (e:=none) (Em _ _ _ _)) Fm Fm)).mono ?_;rw[Ba K];rintro e O ⟨rfl,q⟩;have D:=stay q (Nz w _ _ _).2.2;obtain⟨F,G⟩:=cl2 D;simp at F G;go_wp2;go_ret;exact⟨rfl,(Em _ _ _ _).trans (q.mono Fr)⟩
 rw[Pk p];have Y:(k==2)=false:=by simp[m]
 have Z:(k==3)=false:=by simp[p]
 by_cases h:k=g;·subst h;have b:¬n=c:=fun b=>f ⟨rfl,b⟩;go_in;go_wp2;go_ret;exact⟨rfl,Em _ _ _ _⟩
 clear f j m p;go_in;go_wp2;go_ret;exact⟨rfl,Em _ _ _ _⟩
def Tr.badOf(x:Int × Int):Int:=if x.1=0 then -1 else x.2
theorem Bcz(G q:Option Addr)(h s t bb:Nat)(l:List (Rd.Cls×Value))(w:World)(hl:l.length<=13)(c8:7<=l.length)(b7:∀p∈l,p.1.fields.length<=1000)(hc:Hm w bb (.slice G l.length h) l):Calls prog 88 #[.agg #[.slice G l.length h,.slice q s t]] w fun e f=>e=.returned (.int .i64 (Tr.badOf (Tr.inCl (Ct l) 0 ((l.map Prod.fst).drop 7))))/\Below w.heap.size w f:=by
 generalize b:Tr.badOf (Tr.inCl (Ct l) 0 ((l.map Prod.fst).drop 7))=r;have I:Hid (Tr.badOf (Tr.inCl (Ct l) 0 ((l.map Prod.fst).drop (7+0)))=r):=b;clear b;have b2:Below w.heap.size w (w.alloc (O11 G l.length h q s t)):=QN _;have b3:=Be w (O11 G l.length h q s t);go_in;go_wp2
 go_loopw [3] (fun i wr=>∃k:Nat,7+k<=l.length/\i=.int .i64 (7+(k:Int))/\Hid (Tr.badOf (Tr.inCl (Ct l) k ((l.map Prod.fst).drop (7+k)))=r)/\Below w.heap.size w wr /\
   wr.heap[w.heap.size]?=some (O11 G l.length h q s t))
  (fun i _=>l.length-(intOf i).toNat)
 case atStart=>exact⟨0,Ck,rfl,I,b2,b3⟩
 case round=>
  clear b2 b3 I;obtain⟨k,hk,rfl,I,C,hx⟩:=hrel;obtain⟨c0,d1⟩:=cl2 hx;simp at c0 d1;have c9:=C.size;by_cases Y:7+k<l.length
  ·have a3:=hc.kp (Kp.of_below (e:=none) C) Fm Fm;obtain⟨g,hg,d0,_,a4⟩:=Cf a3.1 Ck;obtain⟨e1,e2,e3⟩:=Nm l (7+k) Y;have x0:=a4 ((7+k)*2) Ck;have Z:=a4 ((7+k)*2+1) Ck;rw[e1]at x0;rw[e2]at Z;have d2:=b7 _ (Brn Y);have a5:=a3.2 _ (Brn Y);obtain⟨ua,uc,hu⟩:=Bh a5;rw[hu]at Z a5;have hd:(l.map Prod.fst).drop (7+k)=l[7+k].1::(l.map Prod.fst).drop (7+(k+1)):=by
    rw[Brj (by simpa using Y)];simp;rfl
   have b:=Ba I;rw[hd,Tr.inCl]at b;generalize b8:l[7+k].1=c at *;have it:((7:Int)+(k:Int)).toNat=7+k:=Ck;have d3:0<=(7:Int)+(k:Int):=Ck;have d4:(7:Int)+(k:Int)<(l.length:Int):=Ck;clear a4 e1 e2 e3 b8 hd hu a3;subst hg;by_cases h1:7+(k:Int)<=c.above
   ·rw[Th h1]at b;have J:r=7+(k:Int):=by rw[<- b];simp[Tr.badOf]
    have v:=Bc J;clear b J;go_wp2;go_ret;exact⟨by rw[Ba v];rfl,C⟩
   rw[Pk h1]at b;generalize A:Tr.allPlainB (Ct l) c.fields=K at b;have a6:Hid (Tr.allPlainB (Ct l) (c.fields.drop 0)=K):=by unfold Hid;simpa using A
   have a0:=Bc b;clear b A;go_wp2
   go_loopw [5] (fun j w2=>∃m:Nat,m<=c.fields.length/\j=.int .i64 m/\Hid (Tr.allPlainB (Ct l) (c.fields.drop m)=K)/\Below wr.heap.size wr w2/\Below w.heap.size w w2 /\
     w2.heap[w.heap.size]?=some (O11 (some ⟨g,0,none⟩) l.length h q s t))
    (fun j _=>c.fields.length-(intOf j).toNat)
   case atStart=>exact⟨0,Ck,rfl,a6,Brm _ _,C,hx⟩
   case round=>
    obtain⟨m,hm,rfl,L,N,D,B⟩:=hrel;have a7:=a5.kp (Kp.of_below (e:=none) N) Fm;have b9:=N.size;have b4:=D.size;have a8:=Bb B 0;have a9:=Bb B 1;simp at a8 a9;by_cases b5:m<c.fields.length
    ·obtain⟨g2,c3,d5,_,b0⟩:=Cf a7 Ck;obtain⟨t1,t2,t3⟩:=Fu c.fields m b5;have u0:=b0 (m*2) Ck;have u1:=b0 (m*2+1) Ck;rw[t1]at u0;rw[t2]at u1;have b6:c.fields.drop m=c.fields[m]::c.fields.drop (m+1):=Brj b5;have O:=Ba L;rw[b6,Of]at O;generalize c4:c.fields[m].1=Q at *;generalize c5:c.fields[m].2=V at *;have mb:(m:Int)<(c.fields.length:Int):=Ck;clear b0 t1 t2 t3 c4 c5 b6 c0 d1 x0 Z a6;subst c3;have d6:=Sp B;cases F:Tr.plainB (Ct l) Q V with
     | true =>
      have v:Hid (Tr.allPlainB (Ct l) (c.fields.drop (m+1))=K):=by unfold Hid;rw[<- O,F];simp
      have HP:=Bc F;clear F O L;go_wp2
      go_region_held3 (fun f=>f.cell? ⟨w.heap.size,0,none⟩=some (.slice (some ⟨g,0,none⟩) l.length h)/\f.cell? ⟨w.heap.size,1,none⟩=some (.slice q s t)/\f.cell? ⟨g2,m*2,none⟩=some (.int .i64 Q)/\f.cell? ⟨g2,m*2+1,none⟩=some (.int .i64 V))
       (first|go_keep|(go_split_ands;refine⟨?_,?_,?_,?_⟩<;>(rw[z.cell Fr];assumption)))
       (first|(go_at_call 90;refine(show Calls prog _ _ _ _ from by have:=Vo (Ct l) (some ⟨g,0,none⟩) q h s t Q V wr.drew;rw[Jn]at this;exact this).mono ?_;rw[Ba HP];rintro e w3 ⟨rfl,z⟩))
      have b1:Below w.heap.size w w3:=D.drew.trans (z.mono b4);have c6:=N.drew.trans (z.mono b9);have c7:=stay z (show (wr.drew).heap[w.heap.size]?=_ from B);clear z D B N a7 u0 u1 a8 a9;go_wp2;go_roundw
      case rel=>exact⟨m+1,Ck,Mg,v,c6,b1,c7⟩
      case measure=>simp[intOf];omega
     | false =>
      have A:K=false:=by rw[<- O,F];simp
      have b:=Ba a0;rw[A,Th rfl]at b;have J:r=7+(k:Int):=by rw[<- b];simp[Tr.badOf]
      have v:=Bc J;have HP:=Bc F;clear F O L A b J a0;go_wp2
      go_region_held3 (fun f=>f.cell? ⟨w.heap.size,0,none⟩=some (.slice (some ⟨g,0,none⟩) l.length h)/\f.cell? ⟨w.heap.size,1,none⟩=some (.slice q s t)/\f.cell? ⟨g2,m*2,none⟩=some (.int .i64 Q)/\f.cell? ⟨g2,m*2+1,none⟩=some (.int .i64 V))
       (first|go_keep|(go_split_ands;refine⟨?_,?_,?_,?_⟩<;>(rw[z.cell Fr];assumption)))
       (first|(go_at_call 90;refine(show Calls prog _ _ _ _ from by have:=Vo (Ct l) (some ⟨g,0,none⟩) q h s t Q V wr.drew;rw[Jn]at this;exact this).mono ?_;rw[Ba HP];rintro e w3 ⟨rfl,z⟩))
      have b1:Below w.heap.size w w3:=D.drew.trans (z.mono b4);clear z D B N a7 u0 u1 a8 a9;go_wp2;go_ret;exact⟨by rw[Ba v];rfl,b1⟩
    have A:K=true:=by rw[<- Ba L,Brq Ck];rfl
    have b:=Ba a0;rw[A,Pk Hd]at b;have v:=Bc b;clear b A L a0 a6 C hx c0 d1 x0 Z;go_wp2;go_roundw
    case rel=>exact⟨k+1,Ck,Mg,v,D,B⟩
    case measure=>simp[intOf];omega
  have hf:r = -1:=by rw[<- Ba I,Brq Fr];rfl
  have v:=Bc hf;clear hf;go_wp2;go_ret;exact⟨by rw[Ba v];rfl,C⟩
def Rf.classed(s:TB):Int × Int :=
 if 15000<s.length then (1,0)
 else if (Rf.fil s).2.2≠(s.length:Int) then (2,0)
 else if 0<=Tr.badOf (Tr.inCl (Tr.tree (Rf.fil s).1) 0 (Rf.fil s).1) then (3,Tr.badOf (Tr.inCl (Tr.tree (Rf.fil s).1) 0 (Rf.fil s).1))
 else (0,0)
def Kk(l:List (Rd.Cls×Value))(b:List Rd.Cls)(h:l.map Prod.fst=Rf.given++b):Ct l=Tr.tree b/\(l.map Prod.fst).drop 7=b/\l.length=7+b.length:=by
 refine⟨?_,?_,?_⟩
 ·unfold Ct Tr.tree;rw[h,Bse];rfl
 ·rw[h];rfl
 have:=congrArg List.length h;simp[Rf.given]at this;omega
def Bhz(s:TB)(i:Int):(Rf.cls s i).1.fields.length<=1000:=by
 unfold Rf.cls
 split
 ·simp
 simp only;rw[Mx];have:=Rf.cnt_bd s (i+1) 0 4 Ck;omega
def Ac(s:TB):(Rf.fil s).1.length<=6/\∀c∈(Rf.fil s).1,c.fields.length<=1000:=by
 have e:∀k:Nat,(Rf.rep (Rf.cls s) k 3).1.length<=k/\∀c∈(Rf.rep (Rf.cls s) k 3).1,c.fields.length<=1000:=by
  intro k
  induction k with
  | zero=>simp[Rf.rep]
  | succ j ih =>
   unfold Rf.rep
   split
   ·simp
   split
   ·simp
   refine⟨by simp;exact ih.1,?_⟩;intro c b;simp only[Bs1,Bth]at b;rcases b with b|b
   ·exact ih.2 c b
   rw[b];exact Bhz s _
 unfold Rf.fil
 split
 ·simp
 split
 ·simp
 split
 ·simp
 simp only;have f:=Rf.cnt_bd s 2 0 6 Ck;have:=e (Rf.cnt s 2 0 6).toNat
 split
 ·simp
 split
 ·simp
 split
 ·simp
 exact⟨Mc,this.2⟩
def Ow (s:TB)(w:TW)(e:Ending)(w':TW):Prop :=
 ∃a1 n1 c1 a2 n2 c2,e=.returned (.tuple #[.agg #[.slice a1 n1 c1,.slice a2 n2 c2],.int .i64 (Rf.classed s).1,.int .i64 (Rf.classed s).2]) /\
  ((Rf.classed s).1=0->∃l1 l2,l1.map Prod.fst=Rf.given++(Rf.fil s).1/\Hm w' w.heap.size (.slice a1 n1 c1) l1/\l2.map Prod.fst=(Rf.fil s).2.1/\Ks w' w.heap.size (.slice a2 n2 c2) l2)/\Below w.heap.size w w'
def Bcx(s:ByteArray)(w:TW)(c3:s.size<=maxLen):Calls prog 56 #[.string s] w fun e w'=>Ow s.data.toList w e w':=by
 have a6:s.data.toList.length=s.size:=Hd;by_cases h1:15000<s.size
 ·have g:Rf.classed s.data.toList=(1,0):=by unfold Rf.classed;rw[Th Ck]
  unfold Ow;rw[g];have b9:(15000:Int)<(s.size:Int):=Ck;go_in;go_wp2;refine tb (.tuple #[.agg #[.s none 0 0,.s none 0 0],.i 1,.i 0]) (by simp[results,Bvp,go_sem]) ?_;exact⟨none,0,0,none,0,0,rfl,fun h=>absurd h Fm,QN _⟩
 have b9:¬(15000:Int)<(s.size:Int):=Ck;have c0:s.size<=15000:=Ck;have HR:=Bc (fun w=>Bjg s w c0);have a5:=Bc (Ac s.data.toList);by_cases j:(Rf.fil s.data.toList).2.2=(s.data.toList.length:Int)
 ·have K:((Rf.fil s.data.toList).2.2==(s.data.toList.length:Int))=true:=by rw[Bvb];exact j
  have H2:=Bc K;have b4:=Bc j;generalize N:Tr.badOf (Tr.inCl (Tr.tree (Rf.fil s.data.toList).1) 0 (Rf.fil s.data.toList).1)=bd;have b5:=Bc N;by_cases h3:0<=bd
  ·have g:Rf.classed s.data.toList=(3,bd):=by unfold Rf.classed;rw[Pk Ck,Pk (fun h=>h j),N,Th h3]
   unfold Ow;rw[g];clear K j a6 N g;go_in;go_wp2_with fail;refine(Ba HR _).mono ?_;unfold L0;rw[Ba H2];rintro e O ⟨l,n1,m,v,z,A,rfl,Q,B⟩;obtain⟨c,l2,q,L,V,b6⟩:=Q (Ba b4);obtain⟨Y,Z,I⟩:=Kk c _ q;obtain⟨xa,xc,a0⟩:=Bh L.1;simp only[Value.slice.injEq]at a0;obtain⟨rfl,a7,rfl⟩:=a0;subst a7;have t:=stay B (Be w _);have C:=((Brm w.heap.size w).alloc (Bru _) _).trans (B.mono Hd);have a8:=Sp t;have s1:=C.size;have a9:c.length<=13:=by rw[I];have:=(Ba a5).1;omega
   have b0:7<=c.length:=by rw[I];omega
   have a3:∀p∈c,p.1.fields.length<=1000:=by
    intro p hp;have f:p.1∈c.map Prod.fst:=Bsc hp;rw[q,Bs1]at f;rcases f with f|f
    ·simp[Rf.given]at f;rcases f with h|h | h<;>simp[h]
    exact(Ba a5).2 _ f
   have b1:=Bc a3;have b7:=Bc q;have b8:=Bc V;have b2:=Bc Y;have b3:=Bc Z;clear a3 q V Y Z I Q;go_wp2_with fail;refine(Bcz l v m z A _ c _ a9 b0 (Ba b1) (L.kp (Kp.alloc (e:=none) _ _) Fm Fm)).mono ?_;rw[Ba b2,Ba b3,Ba b5];rintro e w2 ⟨rfl,D⟩;have J:=stay D (Bg t _);have D2:=stay D (Be O _);have a4:=(C.alloc s1 _).trans (D.mono Fr);have s2:=a4.size;obtain⟨d0,d1⟩:=cl2 D2;obtain⟨F,G⟩:=cl2 J;obtain⟨g0,g1⟩:=fr2 J;simp at d0 d1 F G;go_wp2_with fail;refine tb (.tuple #[.agg #[.s none 0 0,.s none 0 0],.i 3,.i bd]) (by simp[results,Bvp,go_sem,F,G]) ?_;exact⟨none,0,0,none,0,0,rfl,fun h=>absurd h Fm,by repeat (first|refine Bry ?_ Hd _|exact a4)⟩
  have g:Rf.classed s.data.toList=(0,0):=by unfold Rf.classed;rw[Pk Ck,Pk (fun h=>h j),N,Pk h3]
  unfold Ow;rw[g];clear K j a6 N g;go_in;go_wp2_with fail;refine(Ba HR _).mono ?_;unfold L0;rw[Ba H2];rintro e O ⟨l,n1,m,v,z,A,rfl,Q,B⟩;obtain⟨c,l2,q,L,V,b6⟩:=Q (Ba b4);obtain⟨Y,Z,I⟩:=Kk c _ q;obtain⟨xa,xc,a0⟩:=Bh L.1;simp only[Value.slice.injEq]at a0;obtain⟨rfl,a7,rfl⟩:=a0;subst a7;have t:=stay B (Be w _);have C:=((Brm w.heap.size w).alloc (Bru _) _).trans (B.mono Hd);have a8:=Sp t;have s1:=C.size;have a9:c.length<=13:=by rw[I];have:=(Ba a5).1;omega
  have b0:7<=c.length:=by rw[I];omega
  have a3:∀p∈c,p.1.fields.length<=1000:=by
   intro p hp;have f:p.1∈c.map Prod.fst:=Bsc hp;rw[q,Bs1]at f;rcases f with f|f
   ·simp[Rf.given]at f;rcases f with h|h | h<;>simp[h]
   exact(Ba a5).2 _ f
  have b1:=Bc a3;have b7:=Bc q;have b8:=Bc V;have b2:=Bc Y;have b3:=Bc Z;clear a3 q V Y Z I Q;go_wp2_with fail;refine(Bcz l v m z A _ c _ a9 b0 (Ba b1) (L.kp (Kp.alloc (e:=none) _ _) Fm Fm)).mono ?_;rw[Ba b2,Ba b3,Ba b5];rintro e w2 ⟨rfl,D⟩;have J:=stay D (Bg t _);have D2:=stay D (Be O _);have a4:=(C.alloc s1 _).trans (D.mono Fr);have s2:=a4.size;obtain⟨d0,d1⟩:=cl2 D2;obtain⟨F,G⟩:=cl2 J;obtain⟨g0,g1⟩:=fr2 J;simp at d0 d1 F G;go_wp2_with fail;refine tb (.tuple #[.agg #[.s l c.length m,.s v z A],.i 0,.i 0]) (by simp[results,Bvp,go_sem,F,G]) ?_;have k0:=(Kp.alloc (e:=some 47) (b:=w.heap.size) O (O11 l c.length m v z A)).trans (Kp.of_below D);have k1:=(k0.trans (Kp.set (i:=0) J (.s l c.length m))).trans (Kp.set (i:=1) (Bt (i:=0) J (.s l c.length m)) (.s v z A));exact⟨l,c.length,m,v,z,A,rfl,fun _=>⟨c,l2,Ba b7,(L.mono Hd).kp k1 Fm Fm,Ba b8,(b6.mono Hd).kp k1 Fm Fm Fm Fm⟩,by repeat (first|refine Bry ?_ Hd _|exact a4)⟩
 have g:Rf.classed s.data.toList=(2,0):=by unfold Rf.classed;rw[Pk Ck,Th j]
 have K:((Rf.fil s.data.toList).2.2==(s.data.toList.length:Int))=false:=by rw[Bvj];exact j
 have H2:=Bc K;unfold Ow;rw[g];clear K j a6 g;go_in;go_wp2_with fail;refine(Ba HR _).mono ?_;unfold L0;rw[Ba H2];rintro e O ⟨l,n1,m,v,z,A,rfl,_,B⟩;have t:=stay B (Be w _);have C:=((Brm w.heap.size w).alloc (Bru _) _).trans (B.mono Hd);have a8:=Sp t;obtain⟨F,G⟩:=cl2 t;obtain⟨g0,g1⟩:=fr2 t;simp at F G;have s1:=C.size;go_wp2_with fail;refine tb (.tuple #[.agg #[.s none 0 0,.s none 0 0],.i 2,.i 0]) (by simp[results,Bvp,go_sem,F,G,a8]) ?_;exact⟨none,0,0,none,0,0,rfl,fun h=>absurd h Fm,by repeat (first|refine Bs4 ?_ Fr _|refine Bry ?_ Hd _|exact C)⟩
def Yp(s:TB):(Rd.read s).2=(if 15000<s.length then 1 else if (Rf.fil s).2.2≠(s.length:Int) then 2 else 0)/\((Rd.read s).2=0->(Rd.read s).1.classes=(Rf.fil s).1/\(Rd.read s).1.methods=(Rf.fil s).2.1.map Rf.Mth.m):=by
 obtain⟨g,i⟩:=Rf.fil_same s;unfold Rd.read;by_cases e:15000<s.length;·rw[Th e,Th e];exact⟨rfl,fun h=>absurd h Fm⟩
 rw[Pk e,Pk e];by_cases c:(Rf.fil s).2.2=(s.length:Int);·obtain⟨b,p⟩:=g.2 c;rw[Pk (by rw[b,p];simp),Pk (fun h=>h c)];exact⟨rfl,fun _=>i c⟩
 rw[Th c];have j:(Rd.fil s ⟨0,false⟩).2.bad=true\/(Rd.fil s ⟨0,false⟩).2.pos≠s.length:=by
  rcases Bool.eq_false_or_eq_true (Rd.fil s ⟨0,false⟩).2.bad with f|f
  ·exact .inl f
  right
  intro l;exact c (g.1 ⟨f,l⟩)
 rw[Th j];exact⟨rfl,fun h=>absurd h Fm⟩
def Bdf(s:TB)(t:Rd.St):0<=(Rd.nx s t).1:=by
 unfold Rd.nx
 split
 ·simp
 split
 ·simp
 simp only;omega
def Bcw(s:TB):∀c∈(Rd.read s).1.classes,0<=c.above:=by
 unfold Rd.read
 split
 ·simp
 split
 ·simp
 simp only[Rd.fil];refine Ot (fun c:Rd.Cls=>0<=c.above) _ (fun t=>?_) _ _;simp only[Rd.cls];exact Bdf s t
def Bo2(l:TI)(b:List Rd.Cls):∀k:Nat,(Tr.inCl l k b).1=0->∀i,i<b.length->(b.map Rd.Cls.above).getD i 0<7+(k:Int)+(i:Int):=by
 induction b with
 | nil=>intro k _ i e;simp at e
 | cons c r ih =>
  intro k h i e;unfold Tr.inCl at h;by_cases f:7+(k:Int)<=c.above;·rw[Th f]at h;simp at h
  rw[Pk f]at h;by_cases g:Tr.allPlainB l c.fields=false;·rw[Th g]at h;simp at h
  rw[Pk g]at h;cases i with
  | zero=>simp;omega
  | succ j =>
   have:=ih (k+1) h j (by simpa using e);simp only[Bsw,List.getD_cons_succ];omega
def Bfq(b:List Rd.Cls)(g:∀c∈b,0<=c.above)(h:(Tr.inCl (Tr.tree b) 0 b).1=0):Tr.Ok (Tr.tree b):=by
 refine⟨by rw[Ie];omega,rfl,fun i p l=>?_⟩;rw[Ie]at l;by_cases q:i<7;·have:i=1\/i=2\/i=3\/i=4\/i=5\/i=6:=Ck;rcases this with rfl|rfl|rfl|rfl|rfl|rfl<;>(unfold Tr.tree Tr.given;simp)
 obtain⟨j,rfl⟩:∃j,i=7+j:=⟨i-7,Ck⟩;have f:j<b.length:=Ck;have e:(Tr.tree b).getD (7+j) 0=(b.map Rd.Cls.above).getD j 0:=by
  unfold Tr.tree;rw[Vm,Vm,Br0 (by simp[Tr.given])];simp[Tr.given]
 rw[e];have s:=Bo2 _ b 0 h j f;refine⟨?_,Ck⟩;have m:(b.map Rd.Cls.above).getD j 0=b[j].above:=by simp[Vm,f]
 rw[m];exact g _ (Brn f)
def Bh1(s:TB)(h:(Rf.classed s).1=0):Tr.Ok (Tr.tree (Rf.fil s).1)/\(Rd.read s).1.classes=(Rf.fil s).1:=by
 obtain⟨e,p⟩:=Yp s;unfold Rf.classed at h;by_cases g:15000<s.length;·rw[Th g]at h;simp at h
 rw[Pk g]at h e;by_cases i:(Rf.fil s).2.2≠(s.length:Int);·rw[Th i]at h;simp at h
 rw[Pk i]at h e;have j:=(p e).1;refine⟨Bfq _ (fun c q=>Bcw s c (by rw[j];exact q)) ?_,j⟩;by_cases b:0<=Tr.badOf (Tr.inCl (Tr.tree (Rf.fil s).1) 0 (Rf.fil s).1);·rw[Th b]at h;simp at h
 unfold Tr.badOf at b;by_cases m:(Tr.inCl (Tr.tree (Rf.fil s).1) 0 (Rf.fil s).1).1=0;·exact m
 rw[Pk m]at b
 exfalso
 have t:∀(l:TI) (k:Nat) (f:List Rd.Cls),0<=(Tr.inCl l k f).2:=by
  intro l k f
  induction f generalizing k with
  | nil=>simp[Tr.inCl]
  | cons c r ih =>
   unfold Tr.inCl
   split
   ·simp only;omega
   split
   ·simp only;omega
   exact ih _
 exact b (t _ _ _)
structure OpD where
 kind:Int
 file:ByteArray
 a1:Int
 a2:Int
 b1:Int
 b2:Int
 entry:Int
 heap:Int
 depth:Int
 fuel:Int
 ia:Option Addr
 il:Nat
 ic:Nat
def OpD.val(o:OpD):Value:=.agg #[.int .i64 o.kind,.string o.file,.int .i64 o.a1,.int .i64 o.a2,.int .i64 o.b1,.int .i64 o.b2,.int .i64 o.entry,.int .i64 o.heap,.int .i64 o.depth,.int .i64 o.fuel,.slice o.ia o.il o.ic]
def V7 (w:TW)(a:TA)(len:Nat)(V:Nat->OpD):Prop:=∀i,i<len->∃b off,a=some ⟨b,off,none⟩/\b<w.heap.size /\
 w.cell? ⟨b,off+i*11,none⟩=some (.int .i64 (V i).kind)/\w.cell? ⟨b,off+i*11+1,none⟩=some (.string (V i).file) /\
 w.cell? ⟨b,off+i*11+2,none⟩=some (.int .i64 (V i).a1)/\w.cell? ⟨b,off+i*11+3,none⟩=some (.int .i64 (V i).a2) /\
 w.cell? ⟨b,off+i*11+4,none⟩=some (.int .i64 (V i).b1)/\w.cell? ⟨b,off+i*11+5,none⟩=some (.int .i64 (V i).b2) /\
 w.cell? ⟨b,off+i*11+6,none⟩=some (.int .i64 (V i).entry)/\w.cell? ⟨b,off+i*11+7,none⟩=some (.int .i64 (V i).heap) /\
 w.cell? ⟨b,off+i*11+8,none⟩=some (.int .i64 (V i).depth)/\w.cell? ⟨b,off+i*11+9,none⟩=some (.int .i64 (V i).fuel) /\
 w.cell? ⟨b,off+i*11+10,none⟩=some (.slice (V i).ia (V i).il (V i).ic)
def V7.below{w s:TW}{a:TA}{u:Nat}{V:Nat->OpD}(h:V7 w a u V)(c:Bl w s):V7 s a u V:=by
 intro i f;obtain⟨b,g,j,e,l⟩:=h i f;refine⟨b,g,j,Brs e c.size,?_⟩;simpa only [c.cell (p:=.a b _) e] using l
open Go.ChangeShapes Go.WideShapes Go.ChangeAt Go.RowKit Go.Deep
def Tryz.cellsOp:prog.cellsOf 99=11:=Lt
def Tryz.cellsTy:prog.cellsOf 31=2:=Lt
def Tryz.cellsInt:prog.cellsOf 3=1:=Lt
def Tryz.cellsStr:prog.cellsOf 9=1:=Lt
def Tryz.cellsInts:prog.cellsOf 26=1:=Lt
section
variable {H:Type}{enc:TypeId × Value→H}
def Bn1 (o:OpD):Prop:=o.file.size<=maxLen
end
namespace Cd
def wd (op:Int):Nat:=if op=0\/op=2\/op=3\/(11<=op/\op<=21) then 2 else 1
def wd_bd(op:Int):1<=wd op/\wd op<=2:=by unfold wd;split<;>omega
def starts(c:TI):Nat->Nat->List Nat
 | 0,_=>[]
 | k+1,p=>if p<c.length then p::starts c k (p+wd (c.getD p 0)) else []
def places(c:TI):List Nat:=starts c c.length 0
def starts_end{z:TI}{k b:Nat}(h:z.length<=b):starts z k b=[]:=by
 cases k with
 | zero=>rfl
 | succ j=>unfold starts;rw[Pk Ck]
def starts_go{c:TI}{k p:Nat}(h:p<c.length)(b:c.length<=p+k):∃j,k=j+1/\c.length<=(p+wd (c.getD p 0))+j/\starts c k p=p::starts c j (p+wd (c.getD p 0)):=by
 obtain⟨j,rfl⟩:∃j,k=j+1:=⟨k-1,Ck⟩;have:=wd_bd (c.getD p 0);refine⟨j,rfl,Ck,?_⟩;rw[starts,Th h]
def first(f:Nat->Bool):List Nat->Int
 | []=>-1
 | p::r=>if f p=true then (p:Int) else first f r
def begB (c:TI)(place:Int):Bool:=(places c).any fun p=>(p:Int)==place
def noRead(c:TI)(p:Nat):Bool:=decide (25<c.getD p 0) || decide (c.length<p+wd (c.getD p 0))
def unread(c:TI):Int:=first (noRead c) (places c)
end Cd
end Go.Proofs.YtpcgnjolfahacaaGreat
