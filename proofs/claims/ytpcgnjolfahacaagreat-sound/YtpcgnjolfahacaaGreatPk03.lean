/- the proof's parts -/
import Derived.Test.YtpcgnjolfahacaaGreatPk02
set_option maxRecDepth 100000
set_option maxHeartbeats 40000000
set_option linter.unusedVariables false
set_option linter.unusedSimpArgs false
set_option linter.defProp false
namespace Go.Proofs.YtpcgnjolfahacaaGreat
open Go.RowKit Go.Proofs.Tryz
variable{z:TI}
structure Cd.Ins where
 place:Int
 op:Int
 n:Int
def Cd.insAt(c:TI)(p:Nat):Cd.Ins:=⟨(p:Int),c.getD p 0,if Cd.wd (c.getD p 0)=2 then c.getD (p+1) 0 else 0⟩
def Lz (l:List Cd.Ins):List Value:=l.flatMap fun x=>[.int .i64 x.place,.int .i64 x.op,.int .i64 x.n]
def Biq(l:List Cd.Ins)(x:Cd.Ins):Lz (l++[x])=Lz l++[.i x.place,.i x.op,.i x.n]:=by simp[Lz]
def Hs (w:TW)(b:Nat)(v:TX)(l:List Cd.Ins):Prop:=w.ownsRow b 219 3 v l.length (Lz l)
def Hs.kp{e:Option TypeId}{u:Nat}{i:TX}{l:List Cd.Ins}{w b:TW}(h:Hs w u i l)(c:Kp e u w b)(f:some 219≠e):Hs b u i l:=Cx h c f
def Tryz.infoIns:(prog.info? 219).map (fun i=>(i.zero,i.size,i.bytes))=some (some (.agg #[.i 0,.i 0,.i 0]),3,24):=Le
def W4(l:List Cd.Ins)(k:Nat)(h:k<l.length):(Lz l)[k*3]?=some (.i l[k].place)/\(Lz l)[k*3+1]?=some (.i l[k].op)/\(Lz l)[k*3+2]?=some (.i l[k].n)/\k*3+2<(Lz l).length:=by
 induction l generalizing k with
 | nil=>simp at h
 | cons x r ih =>
  have e:Lz (x::r)=.i x.place::.i x.op::.i x.n::Lz r:=by simp[Lz]
  cases k with
  | zero=>rw[e];simp
  | succ j =>
   obtain⟨p,q,z,y⟩:=ih j (by simpa using h);rw[e,show (j+1)*3=j*3+1+1+1 by omega];refine⟨by simpa using p,by simpa using q,by simpa using z,Fm⟩
def Bg8(op:Int)(w:TW):Calls prog 217 #[.i op] w fun e b=>e=.r (.bool (Cd.wd op==2))/\b=w:=by
 unfold Cd.wd;by_cases h:op=0\/op=2\/op=3\/(11<=op/\op<=21)
 ·rw[Sp h];have c:op=0\/op=2\/op=3\/op=11\/op=12\/op=13\/op=14\/op=15\/op=16\/op=17\/op=18\/op=19\/op=20\/op=21:=Bd;rcases c with rfl|rfl|rfl|rfl|rfl|rfl|rfl|rfl|rfl|rfl|rfl|rfl|rfl|rfl
  all_goals
   go_in;go_wp2;go_ret;exact⟨rfl,rfl⟩
 rw[Pf h];have f:(op==0)=false:=Fm;have g:(op==2)=false:=Fm;have j:(op==3)=false:=Fm;have l:(op==11)=false:=Fm;have m:(op==12)=false:=Fm;have p:(op==13)=false:=Fm;have q:(op==14)=false:=Fm;have s:(op==15)=false:=Fm;have t:(op==16)=false:=Fm;have v:(op==17)=false:=Fm;have z:(op==18)=false:=Fm;have A:(op==19)=false:=Fm;have B:(op==20)=false:=Fm;have C:(op==21)=false:=Fm;go_in;go_wp2;go_ret;exact⟨rfl,rfl⟩
def W7(p:Nat)(op n:Int)(w:TW)(g:p<=100000):Calls prog 164 #[.agg #[.i (p:Int),.i op,.i n]] w fun e c=>e=.r (.i ((p+Cd.wd op:Nat):Int))/\Bl w c:=by
 have b:=fun w=>Bg8 op w;rcases(show Cd.wd op=1\/Cd.wd op=2 by have:=Cd.wd_bd op;omega) with h|h
 all_goals
  rw[h]at b ⊢;have f:=Bc b;go_in;go_wp2_with fail;refine Qm (Ba f _) ?_;rintro j rfl;go_wp2;go_ret;exact⟨Fr,QN _⟩
def Cd.findAt(place:Int):List Cd.Ins->Option Cd.Ins
 | []=>none
 | x::r=>if x.place=place then some x else Cd.findAt place r
def Cd.orZero:Option Cd.Ins->Cd.Ins
 | some x=>x
 | none=>⟨0,0,0⟩
def Bdi(l:List Cd.Ins)(a:TA)(G Y:Nat)(b:Int)(w:TW)(hl:l.length<=100000)(Z:Hs w Y (.s a l.length G) l):Calls prog 287 #[.s a l.length G,.i b] w fun e w' => e=.r (.tuple #[.agg #[.i (Cd.orZero (Cd.findAt b l)).place,.i (Cd.orZero (Cd.findAt b l)).op,.i (Cd.orZero (Cd.findAt b l)).n],.bool (Cd.findAt b l).isSome])/\Bl w w':=by
 generalize f:Cd.findAt b l=r;have h:Hid (Cd.findAt b (l.drop 0)=r):=f;clear f;have I:Bl w (w.alloc (O15 0 0 0)):=QN _;have J:=Bf w (O15 0 0 0);go_in;go_wp2
 go_loopw [10] (fun v wr=>∃k:Nat,k<=l.length/\v=.i (k:Int)/\Hid (Cd.findAt b (l.drop k)=r)/\Bl w wr/\wr.heap[w.heap.size]?=some (O15 0 0 0))
  (fun v _=>l.length-(intOf v).toNat)
 case atStart=>exact⟨0,Bd,rfl,h,I,J⟩
 case round=>
  clear I J h;obtain⟨k,hk,rfl,h,p,j⟩:=hrel;have a0:=p.size;by_cases K:k<l.length
  ·obtain⟨g,hg,a4,_,D⟩:=Cf (Z.kp (Kp.of_below (e:=none) p) Ck) Bd;obtain⟨L,N,O,t4⟩:=W4 l k K;have u0:=(D (k*3) Bd).trans L;have u1:=(D (k*3+1) Bd).trans N;have u2:=(D (k*3+2) Bd).trans O;have Q:l.drop k=l[k]::l.drop (k+1):=Wr K;have f:=Ba h;rw[Q,Cd.findAt]at f;generalize l[k]=x at *;obtain⟨c,q,t⟩:=x;simp only at u0 u1 u2 f;have kb:(k:Int)<(l.length:Int):=Bd;have CX:=Bf wr (O15 c q t);have a1:=Bk j (O15 c q t);have a2:=p.alloc a0 (O15 c q t);have F:=Bc f;clear Q f h D L N O t4;subst hg;by_cases m:c=b
   ·have a3:(c==b)=true:=by simp[m]
    have z:Hid (r=some ⟨c,q,t⟩):=by unfold Hid;rw[<- Ba F,Sp m]
    obtain⟨A,B,C⟩:=cl3 j;obtain⟨q0,q1,q2⟩:=fr3 j;have lr:=Pk j;simp at A B C;clear m F;go_wp2_with fail;refine tb (.tuple #[.agg #[.i c,.i q,.i t],.bool true]) (by simp[results,results287,go_sem,A,B,C,lr]) ?_;rw[Ba z];exact⟨rfl,by repeat (first|refine Bvq ?_ Fr _|refine Bwu ?_ (by first|omega|(simp;omega)) _|exact p)⟩
   have a3:(c==b)=false:=by simp[m]
   have z:Hid (Cd.findAt b (l.drop (k+1))=r):=by unfold Hid;rw[<- Ba F,Pf m]
   clear m F;go_wp2;go_roundw
   case rel=>exact⟨k+1,Bd,Lt,z,a2,a1⟩
   case measure=>simp[intOf];omega
  have V:r=none:=by rw[<- Ba h,Bvi Bd];rfl
  have z:=Bc V;obtain⟨A,B,C⟩:=cl3 j;obtain⟨q0,q1,q2⟩:=fr3 j;have kb:¬(k:Int)<(l.length:Int):=Bd;simp at A B C;clear V h;go_wp2_with fail;refine tb (.tuple #[.agg #[.i 0,.i 0,.i 0],.bool false]) (by simp[results,results287,go_sem,A,B,C]) ?_;rw[Ba z];exact⟨rfl,((p.setCell Fr _).setCell Fr _).setCell Fr _⟩
def Xn(l:List Cd.Ins)(a:TA)(c f:Nat)(b:Int)(w:TW)(h:l.length<=100000)(j:Hs w f (.s a l.length c) l):Calls prog 255 #[.s a l.length c,.i b] w fun e m=>e=.r (.bool (Cd.findAt b l).isSome)/\Bl w m:=by
 have p:=Bdi l a c f b w h j;generalize Cd.findAt b l=r at *;have q:=Bc p;go_in;go_wp2_with fail;refine Qm (Ba q) ?_;intro t g;go_wp2;go_ret;exact⟨rfl,g.alloc g.size _⟩
def Bli(l:List Cd.Ins)(a:TA)(f g:Nat)(b:Int)(w:TW)(j:l.length<=100000)(m:Hs w g (.s a l.length f) l):Calls prog 304 #[.s a l.length f,.i b] w fun e p=>e=.r (.bool ((Cd.findAt b l).isSome&&((Cd.orZero (Cd.findAt b l)).op==15)))/\Bl w p:=by
 have q:=Bdi l a f g b w j m;generalize Cd.findAt b l=r at *;have h:=Bc q;cases r with
 | none =>
  go_in;go_wp2_with fail;refine Qm (Ba h) ?_;intro t c;go_wp2;go_ret;exact⟨rfl,c.alloc c.size _⟩
 | some x =>
  go_in;go_wp2_with fail;refine Qm (Ba h) ?_;intro t c;go_wp2;go_ret;exact⟨rfl,c.alloc c.size _⟩
def Cd.insts(c:TI):List Cd.Ins:=(Cd.places c).map (Cd.insAt c)
def Cd.readL(c:TI):List Cd.Ins:=if 0<=Cd.unread c then [] else Cd.insts c
def Cd.readP(c:TI):Int:=if 0<=Cd.unread c then Cd.unread c else 0
def Cd.readB(c:TI):Bool:=decide (Cd.unread c<0)
def Cd.one(c:TI)(p:Nat):Option Cd.Ins:=if p<c.length/\c.getD p 0<=25/\p+Cd.wd (c.getD p 0)<=c.length then some (Cd.insAt c p) else none
def Bh9:Cd.orZero none=⟨0,0,0⟩:=rfl
theorem Bho(c:List Int)(a:Option Addr)(C F p:Nat)(w:World)(N:c.length<=1000)(O:p<=100000)(j:∀x∈c,0<=x)(l:Du w F (.slice a c.length C) c):Calls prog 163 #[.slice a c.length C,.int .i64 (p:Int)] w fun e G => e=.returned (.tuple #[.agg #[.int .i64 (Cd.orZero (Cd.one c p)).place,.int .i64 (Cd.orZero (Cd.one c p)).op,.int .i64 (Cd.orZero (Cd.one c p)).n],.bool (Cd.one c p).isSome])/\Below w.heap.size w G:=by
 generalize b:Cd.one c p=r;unfold Cd.one at b;have Q:¬(p:Int)<0:=Bd;by_cases v:p<c.length
 ·obtain⟨g,z,V,_,m⟩:=Cf l Bd;have Y:w.cell? ⟨g,p,none⟩=some (.int .i64 (c.getD p 0)):=by
   rw[m p (by simpa using v),Bv8,Th,Ws v];rfl
  have A:0<=c.getD p 0:=by
   rw[Th,Ws v];exact j _ (Bvh v)
  have s:p+1<c.length->w.cell? ⟨g,p+1,none⟩=some (.int .i64 (c.getD (p+1) 0)):=by
   intro h;rw[m (p+1) (by simpa using h),Bv8,Th,Ws h];rfl
  have q:Cd.insAt c p=⟨(p:Int),c.getD p 0,if Cd.wd (c.getD p 0)=2 then c.getD (p+1) 0 else 0⟩:=rfl
  have B:=Cd.wd_bd (c.getD p 0);have I:(p:Int)<(c.length:Int):=Bd;have Z:¬c.getD p 0<0:=Bd;by_cases a0:25<c.getD p 0
  ·have f:Hid (r=none):=by unfold Hid;rw[<- b,Pf Bd]
   generalize c.getD p 0=op at *;clear b q m s A j l;subst z;go_in;go_wp2;refine tb (.tuple #[.agg #[.int .i64 0,.int .i64 0,.int .i64 0],.bool false]) (by simp[results,Byt,go_sem]) ?_;rw[Ba f];exact⟨rfl,by first|exact Bx _ _ _|exact QN _⟩
  have i:=fun w=>Bg8 (c.getD p 0) w;rcases(show Cd.wd (c.getD p 0)=1\/Cd.wd (c.getD p 0)=2 by omega) with hw|hw
  ·have f:Hid (r=some ⟨(p:Int),c.getD p 0,0⟩):=by
    unfold Hid;rw[<- b,Sp Bd,q,hw];rfl
   rw[hw]at i;generalize c.getD p 0=op at *;have t:=Bc i;clear b q m s A j l i hw B;subst z;go_in;go_wp2_with fail;refine(Ba t _).mono ?_;rintro e D ⟨rfl,rfl⟩;go_wp2;refine tb (.tuple #[.agg #[.int .i64 (p:Int),.int .i64 op,.int .i64 0],.bool true]) (by simp[results,Byt,go_sem]) ?_;rw[Ba f];exact⟨rfl,by first|exact Bx _ _ _|exact QN _⟩
  by_cases J:p+1<c.length
  ·have f:Hid (r=some ⟨(p:Int),c.getD p 0,c.getD (p+1) 0⟩):=by
    unfold Hid;rw[<- b,Sp Bd,q,hw];rfl
   have y2:=s J;have K:(p:Int)+1<(c.length:Int):=Bd;rw[hw]at i;generalize c.getD (p+1) 0=L at *;generalize c.getD p 0=op at *;have t:=Bc i;clear b q m s A j l i hw B;subst z;go_in;go_wp2_with fail;refine(Ba t _).mono ?_;rintro e D ⟨rfl,rfl⟩;go_wp2;refine tb (.tuple #[.agg #[.int .i64 (p:Int),.int .i64 op,.int .i64 L],.bool true]) (by simp[results,Byt,go_sem]) ?_;rw[Ba f];exact⟨rfl,by first|exact Bx _ _ _|exact QN _⟩
  have f:Hid (r=none):=by unfold Hid;rw[<- b,Pf Bd]
  have K:¬(p:Int)+1<(c.length:Int):=Bd;rw[hw]at i;generalize c.getD p 0=op at *;have t:=Bc i;clear b q m s A j l i hw B;subst z;go_in;go_wp2_with fail;refine(Ba t _).mono ?_;rintro e D ⟨rfl,rfl⟩;go_wp2;refine tb (.tuple #[.agg #[.int .i64 0,.int .i64 0,.int .i64 0],.bool false]) (by simp[results,Byt,go_sem]) ?_;rw[Ba f];exact⟨rfl,by first|exact Bx _ _ _|exact QN _⟩
 have f:Hid (r=none):=by unfold Hid;rw[<- b,Pf Bd]
 have I:¬(p:Int)<(c.length:Int):=Bd;clear b j l;go_in;go_wp2;refine tb (.tuple #[.agg #[.int .i64 0,.int .i64 0,.int .i64 0],.bool false]) (by simp[results,Byt,go_sem]) ?_;rw[Ba f];exact⟨rfl,by first|exact Bx _ _ _|exact QN _⟩
def Ap(c:TI)(a:TA)(N bb:Nat)(w:TW)(hl:c.length<=1000)(h0:∀x∈c,0<=x)(hi:Du w bb (.s a c.length N) c):Calls prog 108 #[.s a c.length N] w fun e C => ∃va vc,e=.r (.tuple #[.s va (Cd.readL c).length vc,.i (Cd.readP c),.bool (Cd.readB c)])/\Hs C w.heap.size (.s va (Cd.readL c).length vc) (Cd.readL c)/\Bl w C:=by
 obtain⟨i0,b6,b7,b8,b9⟩:=Bv4 Tryz.infoIns;have O:Cd.unread c=Cd.first (Cd.noRead c) (Cd.starts c c.length 0):=rfl
 generalize G:Cd.unread c=U at O;have hL:Cd.readL c=if 0<=U then [] else Cd.insts c:=by unfold Cd.readL;rw[G]
 have hP:Cd.readP c=if 0<=U then U else 0:=by unfold Cd.readP;rw[G]
 have a2:Cd.readB c=decide (U<0):=by unfold Cd.readB;rw[G]
 generalize Cd.readL c=L at *;generalize Cd.readP c=P at *;generalize Cd.readB c=B at *;have HL:=Bc hL;have HP:=Bc hP;have a3:=Bc a2;have l:Hid (Cd.first (Cd.noRead c) (Cd.starts c c.length 0)=U):=O.symm
 have m:Hid (([]:List Nat)++Cd.starts c c.length 0=Cd.places c):=rfl;have H0:=Bc h0;clear hL hP a2 G O h0;go_in;go_wp2
 go_loopw [5,6] (fun u v wr=>∃(p k:Nat) (done:List Nat),v=.i (p:Int)/\c.length<=p+k/\p<=2000/\done.length<=p/\wr.ownsRow w.heap.size 219 3 u done.length (Lz (done.map (Cd.insAt c))) /\
   Hid (done++Cd.starts c k p=Cd.places c)/\Hid (Cd.first (Cd.noRead c) (Cd.starts c k p)=U)/\Bl w wr)
  (fun _ v _=>c.length-(intOf v).toNat)
 case atStart=>exact⟨0,c.length,[],rfl,Bd,Bd,Fr,Bvl _ _ _ _,m,l,Vm _ _⟩
 case round=>
  clear l m;obtain⟨p,k,done,rfl,hk,d4,d5,I,m,l,q⟩:=hrel;obtain⟨ua,uc,rfl⟩:=Bg I;have a4:=q.size;by_cases a5:p<c.length
  ·obtain⟨j,rfl,hj,Q⟩:=Cd.starts_go (c:=c) (k:=k) (p:=p) a5 hk;have b:=Ba l;have f:=Ba m;rw[Q]at b f;rw[Cd.first]at b
   have d6:=Cd.wd_bd (c.getD p 0);have g:=fun C (hb:Bl w C)=>Bho c a N bb p C hl Bd (Ba H0) (hi.kp (Kp.of_below (e:=none) hb) Ck);have J:Cd.noRead c p=(decide (25<c.getD p 0)||decide (c.length<p+Cd.wd (c.getD p 0))):=rfl;have kb:(p:Int)<(c.length:Int):=Bd;by_cases a6:c.getD p 0<=25/\p+Cd.wd (c.getD p 0)<=c.length
   ·have D:Cd.one c p=some (Cd.insAt c p):=by unfold Cd.one;rw[Sp ⟨a5,a6⟩]
    have a7:=fun n w=>W7 p (c.getD p 0) n w Bd;have c0:Hid (Cd.first (Cd.noRead c) (Cd.starts c j (p+Cd.wd (c.getD p 0)))=U):=by
     unfold Hid;rw[<- b,J,Bwx (show ¬25<c.getD p 0 by omega),Bwx (show ¬c.length<p+Cd.wd (c.getD p 0) by omega)];rw[Pf Ck]
    have c6:Hid ((done++[p])++Cd.starts c j (p+Cd.wd (c.getD p 0))=Cd.places c):=by unfold Hid;rw[<- f];simp
    have t:Hid (Lz ((done++[p]).map (Cd.insAt c))=Lz (done.map (Cd.insAt c))++[.i (Cd.insAt c p).place,.i (Cd.insAt c p).op,.i (Cd.insAt c p).n]):=by
     unfold Hid;rw[Bvx,List.map_singleton,Biq]
    have V:(Cd.insAt c p).place=(p:Int):=rfl;have Y:(Cd.insAt c p).op=c.getD p 0:=rfl;rw[D]at g;simp only[Cd.orZero,Option.isSome_some]at g;rw[V,Y]at g;unfold Hid at t;rw[V,Y]at t;have t:=Bc t;generalize (Cd.insAt c p).n=Z at *;generalize Cd.wd (c.getD p 0)=c7 at *;generalize c.getD p 0=op at *;have a0:=Bc g;have c8:=Bc a7;clear g a7 b f J Q l m V Y D;go_wp2_with fail;refine Qm (Ba a0 _ q) ?_;intro F z;have A:=q.trans (z.mono a4);have K:=Cx I (Kp.of_below (e:=none) z) Ck;have a8:=A.size;clear z I;go_wp2_with (at_builtin;refine Bvw _ rfl _ _ 179 rfl w.heap.size 219 i0 _ 3 24 underlying179 b6 b7 b8 b9 rfl Ck _ _ _ rfl ((K.alloc _).alloc _) ⟨F.heap.size+1,0,none⟩ 1 1 [.i (p:Int),.i op,.i Z] rfl rfl ?c1 ?c2 ?c3 ?c4 ?c5 ?_)
    case c1=>exact Dv _ _ _ _ Fr
    case c2=>intro u b;simp at b;rcases b with rfl|rfl|rfl<;>rfl
    case c3=>unfold maxLen;omega
    case c4=>omega
    case c5=>simp;omega
    intro v' w2 a9 a1 _;have hX:w2.heap[F.heap.size]?=some (O15 (p:Int) op Z):=by
     rw[a1.block F.heap.size Fm (fun h=>by have:=(K.lt _ h.symm).2;omega),Bvu _ _ _ Fr];exact Bf F _
    have b0:w2.ownsRow w.heap.size 219 3 v' (done++[p]).length (Lz ((done++[p]).map (Cd.insAt c))):=by
     rw[Ba t,Up];exact a9
    have b1:=((A.alloc a8 _).alloc Fm _).grown a1 Fm (fun j hj=>(K.lt j hj).1);obtain⟨x0,x1,x2⟩:=cl3 hX;simp at x0 x1 x2;clear a1 K a9 A q hX t;go_wp2_with fail;refine Qb (Ba c8 Z _) b1 ?_;intro w3 b2 c9;have d0:=Cx b0 (Kp.of_below (e:=none) b2) Ck;clear b2 b1 b0 x0 x1 x2;go_wp2;go_roundw
    case rel=>exact⟨p+c7,j,done++[p],rfl,Bd,Bd,Fm,d0,c6,c0,c9⟩
    case measure=>simp[intOf];omega
   have D:Cd.one c p=none:=by unfold Cd.one;rw[Pf (fun h=>a6 h.2)]
   have HF:Hid (U=(p:Int)):=by
    unfold Hid;rw[<- b,J];by_cases d1:25<c.getD p 0;·rw[Bxp d1,Bool.true_or,Sp rfl]
    rw[Bxp (show c.length<p+Cd.wd (c.getD p 0) by omega),Bool.or_true,Sp rfl]
   rw[D]at g;simp only[Bh9,Bzp]at g;have a0:=Bc g;clear g b f J Q l m D;go_wp2_with fail;refine Qm (Ba a0 _ q) ?_;intro F z;have A:=q.trans (z.mono a4);have a8:=A.size;clear z;go_wp2;refine tb (.tuple #[.s none 0 0,.i (p:Int),.bool false]) (by simp[results,results108,go_sem]) ?_;have b3:(0:Int)<=(p:Int):=Bd;rw[Ba HL,Ba HP,Ba a3,Ba HF,Sp b3,Sp b3];exact⟨none,0,Fr,Bvl _ _ _ _,by repeat (first|refine By2 ?_|refine Bwu ?_ (by first|omega|(simp;omega)) _|exact A)⟩
  have b:=Ba l;have f:=Ba m;rw[Cd.starts_end Bd]at b f;have b4:U = -1:=by rw[<- b];rfl
  rw[Bxl]at f;have d2:=Bc b4;have d3:=Bc f;have kb:¬(p:Int)<(c.length:Int):=Bd;clear b f b4 l m;go_wp2;refine tb (.tuple #[.s ua done.length uc,.i 0,.bool true]) (by simp[results,results108,go_sem]) ?_;have b5:¬(0:Int)<=-1:=Bd;rw[Ba HL,Ba HP,Ba a3,Ba d2,Pf b5,Pf b5];unfold Cd.insts;rw[<- Ba d3];exact⟨ua,uc,Fr,by unfold Hs;simpa using I,q⟩
namespace Cd
def Beu(c:TI)(b:Int)(e:List Nat):(findAt b (e.map (insAt c))).isSome=e.any fun p=>(p:Int)==b:=by
 induction e with
 | nil=>rfl
 | cons p r ih =>
  rw[Bwm,findAt,Byb];by_cases h:(insAt c p).place=b
  ·rw[Sp h];have:((p:Int)==b)=true:=by simpa[insAt] using h
   rw[this];rfl
  rw[Pf h,ih];have:((p:Int)==b)=false:=by simpa[insAt] using h
  rw[this];rfl
def find_beg(c:TI)(b:Int):(findAt b (insts c)).isSome=begB c b:=Beu c b (places c)
def find_at(c:TI)(b:Int)(e:List Nat)(h:(findAt b (e.map (insAt c))).isSome=true):(orZero (findAt b (e.map (insAt c))))=insAt c b.toNat/\0<=b:=by
 induction e with
 | nil=>simp[findAt]at h
 | cons p r ih =>
  rw[Bwm,findAt]at h ⊢;by_cases f:(insAt c p).place=b;·rw[Sp f];have:(p:Int)=b:=f;subst this;exact⟨by simp[orZero],Bd⟩
  rw[Pf f]at h ⊢;exact ih h
def Bq0(c:TI)(b:Int):((findAt b (insts c)).isSome&&((orZero (findAt b (insts c))).op==15))=(begB c b&&(c.getD b.toNat 0==15)):=by
 rw[find_beg];cases h:begB c b with
 | false=>rfl
 | true =>
  have:=(find_at c b (places c) (by rw[Beu];exact h)).1;unfold insts;rw[this];rfl
end Cd
structure PBd where
 fa1:Option Addr
 fl1:Nat
 fc1:Nat
 fa2:Option Addr
 fl2:Nat
 fc2:Nat
 tg:Nat
 tc:Nat
 ya:Option Addr
 yn:Nat
 yc:Nat
 cl:Int
 nm:Int
 pa:Option Addr
 pl:Nat
 pc:Nat
 r1:Int
 r2:Int
 lo:Int
 st:Int
 ca:Option Addr
 cn:Nat
 cc:Nat
 ha:Option Addr
 hl:Nat
 hc:Nat
 ma:Option Addr
 ml:Nat
 mc:Nat
 la:Option Addr
 lc:Nat
 T:List Int
 L:List Cd.Ins
def PBd.val(b:PBd):Value:=.agg #[.slice b.fa1 b.fl1 b.fc1,.slice b.fa2 b.fl2 b.fc2,.slice (some ⟨b.tg,0,none⟩) b.T.length b.tc,.slice b.ya b.yn b.yc,.int .i64 b.cl,.int .i64 b.nm,.slice b.pa b.pl b.pc,.int .i64 b.r1,.int .i64 b.r2,.int .i64 b.lo,.int .i64 b.st,.slice b.ca b.cn b.cc,.slice b.ha b.hl b.hc,.slice b.ma b.ml b.mc,.slice b.la b.L.length b.lc]
def PBd.ok(b:PBd)(w:TW)(bb:Nat):Prop:=b.T.length<=1000/\b.L.length<=100000/\Dl w b.tg b.T/\Hs w bb (.slice b.la b.L.length b.lc) b.L
def PBd.ok.below{c:PBd}{w b:TW}{u:Nat}(h:c.ok w u)(f:Bl w b):c.ok b u :=
 ⟨h.1,h.2.1,h.2.2.1.below f,h.2.2.2.kp (Kp.of_below (e:=none) f) Ck⟩
def Cd.mapTy(T:TI)(L:List Cd.Ins)(k n:Int):Bool:=if k=4 then (Cd.findAt n L).isSome&&((Cd.orZero (Cd.findAt n L)).op==15) else Tr.settledB T k n
def Bnl(b:PBd)(g:Nat)(k n:Int)(w:TW)(t:b.ok w g):Calls prog 303 #[b.val,.agg #[.i k,.i n]] w fun e f=>e=.r (.bool (Cd.mapTy b.T b.L k n))/\Bl w f:=by
 have q:=fun w (h:b.ok w g)=>Bli b.L b.la b.lc g n w h.2.1 h.2.2.2;have s:=fun w=>Bfn (ya:=b.ya) (yn:=b.yn) (yc:=b.yc) b.T (.p b.tg) b.tc k n w;have v:∀f,Bl w f->b.ok f g:=fun f h=>t.below h;generalize c:Cd.mapTy b.T b.L k n=R;unfold Cd.mapTy at c;obtain⟨D,F,G,I,J,K,N,O,ya,yn,yc,Q,V,Y,Z,pc,r1,r2,lo,st,ca,cn,cc,ha,hl,hc,ma,ml,mc,la,lc,T,L⟩:=b;simp only[PBd.val]at q s c ⊢;have z:=Bc q;have A:=Bc s;have B:=Bc v;by_cases j:k=4;·rw[Sp j]at c;subst j;have l:=Bc c;go_in;go_wp2_with fail;refine Qm (Ba z _ (Ba B _ (Bx _ _ _))) ?_;intro C m;go_wp2;go_ret;exact⟨by rw[<- Ba l];rfl,(Bx _ _ _).trans (m.mono Fm)⟩
 rw[Pf j]at c;have a0:(k==4)=false:=by simp[j]
 have l:=Bc c;go_in;go_wp2_with fail;refine Qm (Ba A _) ?_;intro C m;go_wp2;go_ret;exact⟨by rw[<- Ba l];rfl,(Bx _ _ _).trans (m.mono Fm)⟩
def Cd.mapTys(T:TI)(L:List Cd.Ins)(l:TP):Bool:=l.all fun t=>Cd.mapTy T L t.1 t.2
def Bcg(b:PBd)(z b2:Nat)(l:TP)(F:TA)(vc:Nat)(w:TW)(hb:b.ok w z)(hl:l.length<=1000)(ht:Dp w b2 (.s F l.length vc) l):Calls prog 288 #[b.val,.s F l.length vc] w fun e c=>e=.r (.bool (Cd.mapTys b.T b.L l))/\Bl w c:=by
 have G:=fun k n w (h:b.ok w z)=>Bnl b z k n w h;have a3:∀c,Bl w c->b.ok c z:=fun c h=>hb.below h;have a4:∀c,Bl w c->Dp c b2 (.s F l.length vc) l:=fun c h=>ht.kp (Kp.of_below (e:=none) h) Ck;generalize hR:Cd.mapTys b.T b.L l=R;have f:Hid (Cd.mapTys b.T b.L (l.drop 0)=R):=hR;clear hR;obtain⟨I,J,K,N,O,Q,V,Y,ya,yn,yc,cl,nm,pa,pl,pc,r1,r2,lo,st,ca,cn,cc,ha,a0,hc,ma,ml,mc,la,lc,T,L⟩:=b;simp only[PBd.val]at G f ⊢;have HM:=Bc G;have HO:=Bc a3;have HT:=Bc a4;clear G a3 a4 hb ht;have a5:Bl w (w.alloc (O16 I J K N O Q (.p V) T.length Y ya yn yc cl nm pa pl pc r1 r2 lo st ca cn cc ha a0 hc ma ml mc la L.length lc)):=QN _;have C0:=Bf w (O16 I J K N O Q (.p V) T.length Y ya yn yc cl nm pa pl pc r1 r2 lo st ca cn cc ha a0 hc ma ml mc la L.length lc);go_in;go_wp2
 go_loopw [9] (fun v wr=>∃k:Nat,k<=l.length/\v=.i (k:Int)/\Hid (Cd.mapTys T L (l.drop k)=R)/\Bl w wr /\
   wr.heap[w.heap.size]?=some (O16 I J K N O Q (.p V) T.length Y ya yn yc cl nm pa pl pc r1 r2 lo st ca cn cc ha a0 hc ma ml mc la L.length lc))
  (fun v _=>l.length-(intOf v).toNat)
 case atStart=>exact⟨0,Bd,rfl,f,a5,C0⟩
 case round=>
  clear a5 C0 f;obtain⟨k,hk,rfl,f,j,A⟩:=hrel;obtain⟨m0,m1,m2,m3,m4,m5,m6,m7,m8,m9,a6,a7,a8,a9,b0⟩:=Wg A;simp at m0 m1 m2 m3 m4 m5 m6 m7 m8 m9 a6 a7 a8 a9 b0;have b6:=j.size;have lB:=Pk A;by_cases b1:k<l.length
  ·obtain⟨g,hg,b8,_,a1⟩:=Cf (Ba HT _ j) Bd;obtain⟨e1,e2,e3⟩:=Gc l k b1;have u0:=(a1 (k*2) Bd).trans e1;have u1:=(a1 (k*2+1) Bd).trans e2;have hd:l.drop k=l[k]::l.drop (k+1):=Wr b1;have m:=Ba f;unfold Cd.mapTys at m;rw[hd,B00]at m;generalize l[k]=t at *;obtain⟨B,C⟩:=t;simp only at u0 u1 m;have hm:=fun w h=>Ba HM B C w h;generalize Cd.mapTy T L B C=Z at *;have HZ:=Bc hm;have D:=Bc m;have kb:(k:Int)<(l.length:Int):=Bd;have b3:=Bk A (O7 B C);have a2:=j.alloc b6 (O7 B C);clear hm m hd a1 e1 e2 e3 f;subst hg;go_wp2_with fail;refine Qb (Ba HZ _ (Ba HO _ a2)) a2 ?_;intro w2 b4 b5;have b7:=stay b4 b3;clear b4 a2 b3 A j u0 u1 m0 m1 m2 m3 m4 m5 m6 m7 m8 m9 a6 a7 a8 a9 b0;cases Z with
   | false =>
    have q:Hid (R=false):=by unfold Hid;rw[<- Ba D];simp
    clear D;go_wp2;go_ret;exact⟨by rw[Ba q];rfl,b5⟩
   | true =>
    have q:Hid (Cd.mapTys T L (l.drop (k+1))=R):=by unfold Hid Cd.mapTys;rw[<- Ba D];simp
    clear D;go_wp2;go_roundw
    case rel=>exact⟨k+1,Bd,Lt,q,b5,b7⟩
    case measure=>simp[intOf];omega
  have q:Hid (R=true):=by unfold Hid;rw[<- Ba f,Bvi Bd];rfl
  have kb:¬(k:Int)<(l.length:Int):=Bd;clear f;go_wp2;go_ret;exact⟨by rw[Ba q];rfl,j⟩
def Cd.mapMay(T:TI)(L:List Cd.Ins)(x:Rd.Mp):Bool:=(Cd.findAt x.place L).isSome&&(Cd.mapTys T L x.locals&&Cd.mapTys T L x.stack)
def Bkx(b:PBd)(f j:Nat)(x:Rd.Mp)(a0 a1:TA)(a2 a3:Nat)(w:TW)(l:b.ok w f)(b3:x.locals.length<=1000)(b4:x.stack.length<=1000)(a7:Dp w j (.s a0 x.locals.length a2) x.locals)(a8:Dp w j (.s a1 x.stack.length a3) x.stack):Calls prog 259 #[b.val,.agg #[.i x.place,.s a0 x.locals.length a2,.s a1 x.stack.length a3]] w fun e c=>e=.r (.bool (Cd.mapMay b.T b.L x))/\Bl w c:=by
 have m:=fun w (h:b.ok w f)=>Xn b.L b.la b.lc f x.place w h.2.1 h.2.2.2;have p:=fun c (h:Bl w c)=>Bcg b f j x.locals a0 a2 c (l.below h) b3 (a7.kp (Kp.of_below (e:=none) h) Ck);have q:=fun c (h:Bl w c)=>Bcg b f j x.stack a1 a3 c (l.below h) b4 (a8.kp (Kp.of_below (e:=none) h) Ck);have a9:∀c,Bl w c->b.ok c f:=fun c h=>l.below h;obtain⟨b5,b6,b7⟩:=x;unfold Cd.mapMay;simp only at m p q ⊢;generalize Cd.mapTys b.T b.L b6=M1 at *;generalize Cd.mapTys b.T b.L b7=M2 at *;generalize (Cd.findAt b5 b.L).isSome=B at *;obtain⟨c2,c3,c4,c5,c6,c7,tg,tc,ya,yn,yc,cl,nm,pa,pl,pc,r1,r2,lo,st,ca,cn,cc,ha,c8,hc,ma,ml,mc,la,lc,T,L⟩:=b;simp only[PBd.val]at m p q ⊢;have b8:=Bc m;have b9:=Bc p;have c0:=Bc q;have HO:=Bc a9;clear m p q a9 l a7 a8;go_in;go_wp2_with fail;refine Qm (Ba b8 _ (Ba HO _ (Bx _ _ _))) ?_;intro w1 t;have a4:=(Bx w _ _).trans (t.mono Fm);have v:=stay t (Cb w _ _);have g:=stay t (Bv w _ _);clear t;cases B with
 | false =>
  clear v g;go_wp2;go_ret;exact⟨rfl,a4⟩
 | true =>
  obtain⟨z,A,C,D,F,G,I,J,K,N,O,Q,V,Y,Z⟩:=Wg v;simp at z A C D F G I J K N O Q V Y Z;have x1:=Bb g 1;have x2:=Bb g 2;simp at x1 x2;go_wp2_with fail;refine Qb (Ba b9 _ a4) a4 ?_;intro w2 a5 a6;have b0:=stay a5 v;have b1:=stay a5 g;clear a5 x1 x2 z A C D F G I J K N O Q V Y Z v g;cases M1 with
  | false =>
   clear b0 b1;go_wp2;go_ret;exact⟨rfl,a6⟩
  | true =>
   obtain⟨z,A,C,D,F,G,I,J,K,N,O,Q,V,Y,Z⟩:=Wg b0;simp at z A C D F G I J K N O Q V Y Z;have x2:=Bb b1 2;simp at x2;go_wp2_with fail;refine Qm (Ba c0 _ a6) ?_;intro w3 c1;go_wp2;go_ret;exact⟨Fr,QB a6 c1⟩
def Cd.hndMay(T:TI)(L:List Cd.Ins)(cn:Int)(x:Rd.Hnd):Bool :=
 if x.til<=x.frm then false else if (Cd.findAt x.frm L).isSome=false then false else if (Cd.findAt x.target L).isSome=false then false
 else if x.til≠cn/\(Cd.findAt x.til L).isSome=false then false else Tr.within T x.cl 1
def Bk7(b:PBd)(K:Nat)(x:Rd.Hnd)(w:TW)(hb:b.ok w K):Calls prog 215 #[b.val,.agg #[.i x.frm,.i x.til,.i x.target,.i x.cl]] w fun e N=>e=.r (.bool (Cd.hndMay b.T b.L (b.cn:Int) x))/\Bl w N:=by
 have Z:=fun p w (h:b.ok w K)=>Xn b.L b.la b.lc K p w h.2.1 h.2.2.2;have a0:=fun w (h:b.ok w K)=>N1 (ya:=b.ya) (yn:=b.yn) (yc:=b.yc) b.T b.tg b.tc x.cl 1 w h.1 h.2.2.1;have b1:∀N,Bl w N->b.ok N K:=fun N h=>hb.below h;obtain⟨O,j,a3,b2⟩:=x;generalize Q:Cd.hndMay b.T b.L (b.cn:Int) ⟨O,j,a3,b2⟩=R;unfold Cd.hndMay at Q;simp only at a0 Q ⊢;have G:=fun w h=>Z O w h;have g:=fun w h=>Z a3 w h;have h3:=fun w h=>Z j w h;generalize (Cd.findAt O b.L).isSome=A at *;generalize (Cd.findAt a3 b.L).isSome=C at *;generalize (Cd.findAt j b.L).isSome=B at *;generalize Tr.within b.T b2 1=D at *;obtain⟨b6,b7,b8,b9,c0,c1,tg,tc,ya,yn,yc,cl,nm,pa,pl,pc,r1,r2,lo,st,ca,cn,cc,ha,c2,hc,ma,ml,mc,la,lc,T,L⟩:=b;simp only[PBd.val]at G g h3 a0 Q ⊢;have HA:=Bc G;have HC:=Bc g;have HB:=Bc h3;have HD:=Bc a0;have V:=Bc b1;clear Z G g h3 a0 b1 hb;have c:=Bc (fun (_:Unit)=>Q);clear Q;by_cases G:j<=O
 ·have f:Hid (R=false):=by unfold Hid;rw[<- Ba c ()];simp[G]
  clear c;go_in;go_wp2;go_ret;exact⟨by rw[Ba f];rfl,Bx _ _ _⟩
 go_in;go_wp2_with fail;refine Qm (Ba HA _ (Ba V _ (Bx _ _ _))) ?_;intro w1 a1;have a4:=(Bx w _ _).trans (a1.mono Fm);have I:=stay a1 (Cb w _ _);have a5:=stay a1 (Bv w _ _);clear a1;have l:=Bb I 2;have m:=Bb I 3;have q:=Bb I 11;have s:=Bb I 14;obtain⟨t,v,z,F⟩:=cl4 a5;simp at l m q s t v z F;cases A with
 | false =>
  have f:Hid (R=false):=by unfold Hid;rw[<- Ba c ()];simp
  clear c;go_wp2;go_ret;exact⟨by rw[Ba f];rfl,a4⟩
 | true =>
  go_wp2_with fail;refine Qb (Ba HC _ (Ba V _ a4)) a4 ?_;intro w2 a6 Y;have J:=stay a6 I;have a7:=stay a6 a5;clear a6 l m q s t v z F I a5;have l:=Bb J 2;have m:=Bb J 3;have q:=Bb J 11;have s:=Bb J 14;obtain⟨t,v,z,F⟩:=cl4 a7;simp at l m q s t v z F;cases C with
  | false =>
   have f:Hid (R=false):=by unfold Hid;rw[<- Ba c ()];simp
   clear c;go_wp2;go_ret;exact⟨by rw[Ba f];rfl,Y⟩
  | true =>
   by_cases g:j=(cn:Int)
   ·have b3:(j != (cn:Int))=false:=by simp[g]
    have b4:¬(cn:Int)<=O:=Bd;have f:Hid (R=D):=by unfold Hid;rw[<- Ba c ()];simp[g,b4]
    clear c g;go_wp2_with fail;refine Qm (Ba HD _ (Ba V _ Y)) ?_;intro w9 a8;go_wp2;go_ret;exact⟨by rw[Ba f];rfl,QB Y a8⟩
   have b3:(j != (cn:Int))=true:=by simp[g]
   go_wp2_with fail;refine Qb (Ba HB _ (Ba V _ Y)) Y ?_;intro w3 a9 b0;have a2:=stay a9 J;have b5:=stay a9 a7;clear a9 l m q s t v z F J a7;have l:=Bb a2 2;have m:=Bb a2 3;have q:=Bb a2 11;have s:=Bb a2 14;obtain⟨t,v,z,F⟩:=cl4 b5;simp at l m q s t v z F;cases B with
   | false =>
    have f:Hid (R=false):=by unfold Hid;rw[<- Ba c ()];simp[g]
    clear c;go_wp2;go_ret;exact⟨by rw[Ba f];rfl,b0⟩
   | true =>
    have f:Hid (R=D):=by unfold Hid;rw[<- Ba c ()];simp[G,g]
    clear c;go_wp2_with fail;refine Qm (Ba HD _ (Ba V _ b0)) ?_;intro w9 a8;go_wp2;go_ret;exact⟨by rw[Ba f];rfl,QB b0 a8⟩
def Bu5(l:List (Rd.Mth×Eh))(k:Nat)(b:k<l.length):(Kw l)[k*10]?=some (.i l[k].1.cl)/\k*10<(Kw l).length:=by
 have h:=M5 (fun x:Rd.Mth×Eh=>Ly x.1 x.2) 10 (fun _=>rfl) l k b 0 Bd;have c:=Kq (fun x:Rd.Mth×Eh=>Ly x.1 x.2) 10 (fun _=>rfl) l;refine⟨?_,?_⟩
 ·unfold Kw;rw[show k*10=k*10+0 by omega,h];rfl
 unfold Kw;rw[c];omega
def Cd.hasM(ow:TI)(n:Int)(ofc:Bool):Bool:=if n<0 then false else if (ow.length:Int)<=n then false else ((ow.getD n.toNat 0 != 255)==ofc)
def Bqv(b:PBd)(C:Nat)(c:List (Rd.Mth×Eh))(n:Int)(h:Bool)(w:TW)(j:b.fl2=c.length)(G:c.length<=1000)(f:Eb w C (.s b.fa2 b.fl2 b.fc2) c):Calls prog 257 #[b.val,.i n,.bool h] w fun e D=>e=.r (.bool (Cd.hasM (c.map fun p=>p.1.cl) n h))/\Bl w D:=by
 unfold Cd.hasM;rw[Bvr];obtain⟨I,J,K,N,O,Q,V,Y,ya,yn,yc,Z,nm,pa,pl,pc,r1,r2,lo,st,ca,cn,cc,ha,a0,hc,ma,ml,mc,la,lc,T,L⟩:=b;simp only at j f;subst j;simp only[PBd.val];by_cases l:n<0;·rw[Sp l];go_in;go_wp2;go_ret;exact⟨rfl,QN _⟩
 rw[Pf l];by_cases m:(c.length:Int)<=n;·rw[Sp m];go_in;go_wp2;go_ret;exact⟨rfl,QN _⟩
 rw[Pf m];obtain⟨q,rfl⟩:=Bvk (show 0<=n by omega);have t:q<c.length:=Bd;obtain⟨g,F,a1,_,v⟩:=Cf f.1 Bd;obtain⟨z,A⟩:=Bu5 c q t;have y0:=(v _ A).trans z;have B:(c.map fun p=>p.1.cl).getD q 0=c[q].1.cl:=by simp[Th,t]
 rw[Bvn,B];generalize c[q].1.cl=oc at *;have kb:(q:Int)<(c.length:Int):=Bd;clear B z A v f;subst F;go_in;go_wp2;go_ret;exact⟨rfl,QN _⟩
def Cd.fieldSum:List Rd.Cls->Nat
 | []=>0
 | c::r=>c.fields.length+Cd.fieldSum r
def Bdh(h B:TA)(j C D O:Nat)(l:List (Rd.Cls×Value))(w:TW)(hl:l.length<=6)(Q:∀p∈l,p.1.fields.length<=1000)(V:Ex w O (.s h l.length j) l):Calls prog 256 #[.agg #[.s h l.length j,.s B C D]] w fun e Y=>e=.r (.i (Cd.fieldSum (l.map Prod.fst):Int))/\Bl w Y:=by
 generalize F:(Cd.fieldSum (l.map Prod.fst):Int)=R;have b:Hid (((0+Cd.fieldSum ((l.map Prod.fst).drop 0):Nat):Int)=R):=by unfold Hid;rw[<- F];simp
 clear F;have G:Bl w (w.alloc (O1 h l.length j B C D)):=QN _;go_in;go_wp2
 go_loopw [3,9] (fun u v wr=>∃k t:Nat,k<=l.length/\v=.i (k:Int)/\u=.i (t:Int)/\t<=1000*k/\Hid (((t+Cd.fieldSum ((l.map Prod.fst).drop k):Nat):Int)=R)/\Bl w wr)
  (fun _ v _=>l.length-(intOf v).toNat)
 case atStart=>exact⟨0,0,Bd,rfl,rfl,Bd,b,G⟩
 case round=>
  clear b G;obtain⟨k,t,hk,rfl,rfl,a4,b,c⟩:=hrel;have Z:=c.size;by_cases f:k<l.length
  ·have m:=V.kp (Kp.of_below (e:=none) c) Ck Ck;obtain⟨g,hg,a5,_,q⟩:=Cf m.1 Bd;obtain⟨I,J,K⟩:=Ns l k f;have x0:=(q _ Bd).trans I;have x1:=(q _ K).trans J;obtain⟨ua,uc,L⟩:=Bg (m.2 _ (Bvh f));rw[L]at x1;have a6:=Q _ (Bvh f);have N:(l.map Prod.fst).drop k=l[k].1::(l.map Prod.fst).drop (k+1):=by
    rw[Wr (by simpa using f)];simp
   have z:=Ba b;rw[N,Cd.fieldSum]at z;generalize l[k].1.fields.length=A at *;generalize l[k].1.above=ab at *;have a0:Hid (((t+A+Cd.fieldSum ((l.map Prod.fst).drop (k+1)):Nat):Int)=R):=by unfold Hid;rw[<- z];omega
   have kb:(k:Int)<(l.length:Int):=Bd;have a3:=c.alloc Z (O5 ab ua A uc);clear z N q I J K m L b;subst hg;go_wp2;go_roundw
   case rel=>exact⟨k+1,t+A,Bd,Lt,Lt,Bd,a0,a3⟩
   case measure=>simp[intOf];omega
  have HF:Hid ((t:Int)=R):=by unfold Hid;rw[<- Ba b,Bvi Fm];simp[Cd.fieldSum]
  have kb:¬(k:Int)<(l.length:Int):=Bd;clear b;go_wp2;go_ret;exact⟨by rw[<- Ba HF];rfl,c⟩
def Cd.argP(T:TI)(nf:Int)(ow:TI)(lo:Int)(L:List Cd.Ins)(op n:Int):Bool :=
 if op=2\/op=3 then decide (n<lo)
 else if 11<=op/\op<=14 then (Cd.findAt n L).isSome
 else if op=15\/op=16\/op=19 then Tr.hasB T n
 else if op=17\/op=18 then decide (n<nf)
 else if op=20 then Cd.hasM ow n false
 else if op=21 then Cd.hasM ow n true
 else true
def Bn1(b:PBd)(bb bm:Nat)(f:List (Rd.Cls×Value))(j:List (Rd.Mth×Eh))(p op n:Int)(w:TW)(hb:b.ok w bb)(a1:b.fl1=f.length)(a2:b.fl2=j.length)(b4:j.length<=1000)(b5:f.length<=6)(a8:∀p∈f,p.1.fields.length<=1000) (a3:Ex w bm (.s b.fa1 b.fl1 b.fc1) f)(a9:Eb w bm (.s b.fa2 b.fl2 b.fc2) j):Calls prog 214 #[b.val,.agg #[.i p,.i op,.i n]] w fun e g => e=.r (.bool (Cd.argP b.T (Cd.fieldSum (f.map Prod.fst):Int) (j.map fun p=>p.1.cl) b.lo b.L op n))/\Bl w g:=by
 have a4:=fun w (h:b.ok w bb)=>Xn b.L b.la b.lc bb n w h.2.1 h.2.2.2;have a5:=fun w=>Bdf (ya:=b.ya) (yn:=b.yn) (yc:=b.yc) b.T (.p b.tg) b.tc n w;have a6:=fun o g (h:Bl w g)=>Bqv b bm j n o g a2 b4 (a9.kp (Kp.of_below (e:=none) h) Ck Ck Ck Ck Ck);have a7:∀g,Bl w g->Calls prog 256 #[.agg #[.s b.fa1 b.fl1 b.fc1,.s b.fa2 b.fl2 b.fc2]] g fun e w2=>e=.r (.i (Cd.fieldSum (f.map Prod.fst):Int))/\Bl g w2:=by
  intro g h;rw[a1]at a3 ⊢;exact Bdh b.fa1 b.fa2 b.fc1 b.fl2 b.fc2 bm f g b5 a8 (a3.kp (Kp.of_below (e:=none) h) Ck Ck)
 have b0:∀g,Bl w g->b.ok g bb:=fun g h=>hb.below h;generalize l:Cd.argP b.T (Cd.fieldSum (f.map Prod.fst):Int) (j.map fun p=>p.1.cl) b.lo b.L op n=R;unfold Cd.argP at l;generalize (Cd.fieldSum (f.map Prod.fst):Int)=nf at *;generalize Cd.hasM (j.map fun p=>p.1.cl) n=b1 at *;generalize (Cd.findAt n b.L).isSome=B at *;generalize Tr.hasB b.T n=K at *;obtain⟨t,c4,v,z,c5,A,F,G,ya,yn,yc,I,J,N,O,Q,V,Y,D,Z,ca,cn,cc,ha,a0,hc,ma,ml,mc,la,lc,T,L⟩:=b;simp only at a1 a2;subst a1 a2;simp only[PBd.val]at a4 a5 a6 a7 l ⊢;have b6:=Bc a4;have b7:=Bc a5;have b2:=Bc a6;have b3:=Bc a7;have HO:=Bc b0;clear a4 a5 a6 a7 b0 hb a3 a9 a8;by_cases c:op=2\/op=3
 ·rcases c with rfl|rfl
  all_goals
   have q:Hid (R=decide (n<D)):=by unfold Hid;rw[<- l];simp
   clear l;go_in;go_wp2;go_ret;exact⟨by rw[Ba q];rfl,Bx _ _ _⟩
 have n2:(op==2)=false:=Fm;have n3:(op==3)=false:=Fm;have i2:=c;clear c;by_cases c:op=11\/op=12\/op=13\/op=14
 ·rcases c with rfl|rfl|rfl|rfl
  all_goals
   have q:Hid (R=B):=by unfold Hid;rw[<- l];simp
   clear l;go_in;go_wp2_with fail;refine Qm (Ba b6 _ (Ba HO _ (Bx _ _ _))) ?_;intro w2 m;go_wp2;go_ret;exact⟨by rw[Ba q];rfl,(Bx _ _ _).trans (m.mono Fm)⟩
 have c6:(op==11)=false:=Fm;have c7:(op==12)=false:=Fm;have c8:(op==13)=false:=Fm;have c9:(op==14)=false:=Fm;have b8:=c;clear c;by_cases c:op=15\/op=16\/op=19
 ·rcases c with rfl|rfl|rfl
  all_goals
   have q:Hid (R=K):=by unfold Hid;rw[<- l];simp
   clear l;go_in;go_wp2_with fail;refine Qm (Ba b7 _) ?_;intro w2 m;go_wp2;go_ret;exact⟨by rw[Ba q];rfl,(Bx _ _ _).trans (m.mono Fm)⟩
 have d0:(op==15)=false:=Fm;have d1:(op==16)=false:=Fm;have d2:(op==19)=false:=Fm;have b9:=c;clear c;by_cases c:op=17
 ·subst c;have CB:=Cb w (O16 t f.length v z j.length A (.p F) T.length G ya yn yc I J N O Q V Y D Z ca cn cc ha a0 hc ma ml mc la L.length lc) (O15 p 17 n);have CI:=Bv w (O16 t f.length v z j.length A (.p F) T.length G ya yn yc I J N O Q V Y D Z ca cn cc ha a0 hc ma ml mc la L.length lc) (O15 p 17 n);have f0:((w.alloc (O16 t f.length v z j.length A (.p F) T.length G ya yn yc I J N O Q V Y D Z ca cn cc ha a0 hc ma ml mc la L.length lc)).alloc (O15 p 17 n)).C w.heap.size 0 (.s t f.length v):=Bb CB 0;have f1:((w.alloc (O16 t f.length v z j.length A (.p F) T.length G ya yn yc I J N O Q V Y D Z ca cn cc ha a0 hc ma ml mc la L.length lc)).alloc (O15 p 17 n)).C w.heap.size 1 (.s z j.length A):=Bb CB 1;have g2:((w.alloc (O16 t f.length v z j.length A (.p F) T.length G ya yn yc I J N O Q V Y D Z ca cn cc ha a0 hc ma ml mc la L.length lc)).alloc (O15 p 17 n)).C (w.heap.size+1) 2 (.i n):=Bb CI 2;have lF:=Pk CB;have lI:=Pk CI;have q:Hid (R=decide (n<nf)):=by unfold Hid;rw[<- l];simp
  clear l;go_in;go_wp2
  go_region_held3 (fun g=>g.C w.heap.size 0 (.s t f.length v)/\g.C w.heap.size 1 (.s z j.length A)/\g.C (w.heap.size+1) 2 (.i n))
   (first|exact⟨f0,f1,g2⟩|exact⟨QC m lF f0,QC m lF f1,QC m lI g2⟩)
   (first|(go_at_call 256;refine(Ba b3 _ (Bx _ _ _).drew).mono ?_;rintro e w2 ⟨rfl,m⟩))
  all_goals
   go_wp2;go_ret;exact⟨by rw[Ba q];rfl,(Bx _ _ _).drew.trans (m.mono Fm)⟩
 have d3:(op==17)=false:=by simp[c]
 have c0:=c;clear c;by_cases c:op=18
 ·subst c;have CB:=Cb w (O16 t f.length v z j.length A (.p F) T.length G ya yn yc I J N O Q V Y D Z ca cn cc ha a0 hc ma ml mc la L.length lc) (O15 p 18 n);have CI:=Bv w (O16 t f.length v z j.length A (.p F) T.length G ya yn yc I J N O Q V Y D Z ca cn cc ha a0 hc ma ml mc la L.length lc) (O15 p 18 n);have f0:((w.alloc (O16 t f.length v z j.length A (.p F) T.length G ya yn yc I J N O Q V Y D Z ca cn cc ha a0 hc ma ml mc la L.length lc)).alloc (O15 p 18 n)).C w.heap.size 0 (.s t f.length v):=Bb CB 0;have f1:((w.alloc (O16 t f.length v z j.length A (.p F) T.length G ya yn yc I J N O Q V Y D Z ca cn cc ha a0 hc ma ml mc la L.length lc)).alloc (O15 p 18 n)).C w.heap.size 1 (.s z j.length A):=Bb CB 1;have g2:((w.alloc (O16 t f.length v z j.length A (.p F) T.length G ya yn yc I J N O Q V Y D Z ca cn cc ha a0 hc ma ml mc la L.length lc)).alloc (O15 p 18 n)).C (w.heap.size+1) 2 (.i n):=Bb CI 2;have lF:=Pk CB;have lI:=Pk CI;have q:Hid (R=decide (n<nf)):=by unfold Hid;rw[<- l];simp
  clear l;go_in;go_wp2
  go_region_held3 (fun g=>g.C w.heap.size 0 (.s t f.length v)/\g.C w.heap.size 1 (.s z j.length A)/\g.C (w.heap.size+1) 2 (.i n))
   (first|exact⟨f0,f1,g2⟩|exact⟨QC m lF f0,QC m lF f1,QC m lI g2⟩)
   (first|(go_at_call 256;refine(Ba b3 _ (Bx _ _ _).drew).mono ?_;rintro e w2 ⟨rfl,m⟩))
  all_goals
   go_wp2;go_ret;exact⟨by rw[Ba q];rfl,(Bx _ _ _).drew.trans (m.mono Fm)⟩
 have d4:(op==18)=false:=by simp[c]
 have c1:=c;clear c;by_cases c:op=20
 ·subst c;have q:Hid (R=b1 false):=by unfold Hid;rw[<- l];simp
  clear l;go_in;go_wp2_with fail;refine Qm (Ba b2 false _ (Bx _ _ _)) ?_;intro w2 m;go_wp2;go_ret;exact⟨by rw[Ba q];rfl,(Bx _ _ _).trans (m.mono Fm)⟩
 have d5:(op==20)=false:=by simp[c]
 have c2:=c;clear c;by_cases c:op=21
 ·subst c;have q:Hid (R=b1 true):=by unfold Hid;rw[<- l];simp
  clear l;go_in;go_wp2_with fail;refine Qm (Ba b2 true _ (Bx _ _ _)) ?_;intro w2 m;go_wp2;go_ret;exact⟨by rw[Ba q];rfl,(Bx _ _ _).trans (m.mono Fm)⟩
 have d6:(op==21)=false:=by simp[c]
 have c3:=c;clear c;have q:Hid (R=true):=by
  unfold Hid;rw[<- l,Pf Bd,Pf Bd,Pf Bd,Pf Bd,Pf Bd,Pf Bd]
 clear l i2 b8 b9 c0 c1 c2 c3;go_in;go_wp2;go_ret;exact⟨by rw[Ba q];rfl,Bx _ _ _⟩
def Cd.inMaps(T:TI)(L:List Cd.Ins):Nat->Int->List Rd.Mp->Int
 | _,_,[]=>-1
 | i,low,x::r=>if x.place<low then (i:Int) else if Cd.mapMay T L x=false then (i:Int) else Cd.inMaps T L (i+1) (x.place+1) r
def Cd.faultOf(r:Int):Int × Int:=if r<0 then (0,0) else (7,r)
def Bk5(b:PBd)(bb b2:Nat)(c:List (Rd.Mp×Value×Value))(w:TW)(hb:b.ok w bb)(b9:b.ml=c.length)(f2:c.length<=1000)(c0:∀p∈c,p.1.locals.length<=1000/\p.1.stack.length<=1000/\-1000<=p.1.place/\p.1.place<=1000)(c1:Ob w b2 (.s b.ma b.ml b.mc) c):Calls prog 216 #[b.val] w fun e m => e=.r (.agg #[.i (Cd.faultOf (Cd.inMaps b.T b.L 0 0 (c.map Prod.fst))).1,.i 0,.i (Cd.faultOf (Cd.inMaps b.T b.L 0 0 (c.map Prod.fst))).2])/\Bl w m:=by
 have b0:=fun x q t z A m (h:Bl w m) h1 h2 h3 h4=>Bkx b bb b2 x q t z A m (hb.below h) h1 h2 h3 h4;have b1:∀m,Bl w m->Ob m b2 (.s b.ma b.ml b.mc) c:=fun m h=>c1.kp (Kp.of_below (e:=none) h) Ck Ck;generalize F:Cd.inMaps b.T b.L 0 0 (c.map Prod.fst)=r;have B:Hid (Cd.inMaps b.T b.L 0 0 ((c.map Prod.fst).drop 0)=r):=F;generalize hF:Cd.faultOf r=Fa;have HF:=Bc hF;clear F hF hb c1;obtain⟨V,Y,Z,a0,a1,a2,tg,tc,ya,yn,yc,cl,nm,pa,pl,pc,r1,r2,lo,st,ca,cn,cc,ha,a3,hc,ma,ml,mc,la,lc,T,L⟩:=b;simp only at b9;subst b9;simp only[PBd.val]at b0 b1 B ⊢;have d4:=Bc b0;have d5:=Bc b1;have d6:=Bc c0;clear b0 b1 c0;have c2:=Bx w (O16 V Y Z a0 a1 a2 (.p tg) T.length tc ya yn yc cl nm pa pl pc r1 r2 lo st ca cn cc ha a3 hc ma c.length mc la L.length lc) (O8 0 0 0);have c3:=Cb w (O16 V Y Z a0 a1 a2 (.p tg) T.length tc ya yn yc cl nm pa pl pc r1 r2 lo st ca cn cc ha a3 hc ma c.length mc la L.length lc) (O8 0 0 0);have c4:=Bv w (O16 V Y Z a0 a1 a2 (.p tg) T.length tc ya yn yc cl nm pa pl pc r1 r2 lo st ca cn cc ha a3 hc ma c.length mc la L.length lc) (O8 0 0 0);go_in;go_wp2
 go_loopw [3,10] (fun u v wr=>∃(k:Nat) (a4:Int),k<=c.length/\v=.i (k:Int)/\u=.i a4/\Hid (Cd.inMaps T L k a4 ((c.map Prod.fst).drop k)=r)/\Bl w wr /\
   wr.heap[w.heap.size]?=some (O16 V Y Z a0 a1 a2 (.p tg) T.length tc ya yn yc cl nm pa pl pc r1 r2 lo st ca cn cc ha a3 hc ma c.length mc la L.length lc)/\wr.heap[w.heap.size+1]?=some (O8 0 0 0))
  (fun _ v _=>c.length-(intOf v).toNat)
 case atStart=>exact⟨0,0,Bd,rfl,rfl,B,c2,c3,c4⟩
 case round=>
  clear B c2 c3 c4;obtain⟨k,a4,hk,rfl,rfl,B,K,CB,G⟩:=hrel;obtain⟨m0,m1,m2,m3,m4,m5,m6,m7,m8,m9,c5,c6,c7,c8,c9⟩:=Wg CB;simp at m0 m1 m2 m3 m4 m5 m6 m7 m8 m9 c5 c6 c7 c8 c9;have d7:=K.size;have lB:=Pk CB;have lR:=Pk G;by_cases l:k<c.length
  ·have b3:=Ba d5 _ K;obtain⟨g,hg,f3,_,a5⟩:=Cf b3.1 Bd;have y0:=(a5 _ (Ge c k l 0 Bd).2).trans (Ge c k l 0 Bd).1;have y1:=(a5 _ (Ge c k l 1 Bd).2).trans (Ge c k l 1 Bd).1;have y2:=(a5 _ (Ge c k l 2 Bd).2).trans (Ge c k l 2 Bd).1;obtain⟨a6,a7⟩:=b3.2 _ (Bvh l);obtain⟨d0,d1,d8,d9⟩:=Ba d6 _ (Bvh l);have hd:(c.map Prod.fst).drop k=c[k].1::(c.map Prod.fst).drop (k+1):=by
    rw[Wr (by simpa using l)];simp
   have F:=Ba B;rw[hd,Cd.inMaps]at F;generalize c[k]=x at *;obtain⟨⟨f,I,J⟩,v1,v2⟩:=x;simp only at y0 y1 y2 a6 a7 d0 d1 F d8 d9;obtain⟨q,z,rfl⟩:=Bg a6;obtain⟨t,A,rfl⟩:=Bg a7;simp at y0 y1 y2;have a8:=K.alloc d7 (O17 f q I.length z t J.length A);have b4:Bl wr (wr.alloc (O17 f q I.length z t J.length A)):=QN _;have b5:=Ba d4 ⟨f,I,J⟩ q t z A _ a8 d0 d1 (a6.kp (Kp.of_below (e:=none) b4) Ck) (a7.kp (Kp.of_below (e:=none) b4) Ck);simp only at b5;generalize Cd.mapMay T L ⟨f,I,J⟩=M at *;have d2:=Bf wr (O17 f q I.length z t J.length A);have d3:=Bk CB (O17 f q I.length z t J.length A);have b6:=Bk G (O17 f q I.length z t J.length A);have HM:=Bc b5;have N:=Bc F;have kb:(k:Int)<(c.length:Int):=Bd;clear b5 F hd a5 B a6 a7 b3 b4;subst hg;by_cases b7:f<a4
   ·have Q:Hid (Fa=(7,(k:Int))):=by
     unfold Hid;rw[<- Ba HF,<- Ba N,Sp b7,Cd.faultOf,Pf Bd]
    obtain⟨q0,q1,q2⟩:=fr3 G;obtain⟨j,C,D⟩:=cl3 G;simp at j C D;clear N HM;go_wp2_with fail;refine tb (.agg #[.i 7,.i 0,.i (k:Int)]) (by simp[results,B0d,go_sem,j,C,D,lR]) ?_;rw[Ba Q];exact⟨rfl,by repeat (first|refine Bvq ?_ Fr _|refine Bwu ?_ (by first|omega|(simp;omega)) _|exact K)⟩
   cases M with
   | false =>
    have Q:Hid (Fa=(7,(k:Int))):=by
     unfold Hid;rw[<- Ba HF,<- Ba N,Pf b7,Sp rfl,Cd.faultOf,Pf Bd]
    clear N;go_wp2_with fail;refine Qb (Ba HM) a8 ?_;intro w2 O b8;have a9:=stay O b6;obtain⟨q0,q1,q2⟩:=fr3 a9;obtain⟨j,C,D⟩:=cl3 a9;simp at j C D;go_wp2_with fail;refine tb (.agg #[.i 7,.i 0,.i (k:Int)]) (by simp[results,B0d,go_sem,j,C,D]) ?_;rw[Ba Q];exact⟨rfl,((b8.setCell Fr _).setCell Fr _).setCell Fr _⟩
   | true =>
    have HG:Hid (Cd.inMaps T L (k+1) (f+1) ((c.map Prod.fst).drop (k+1))=r):=by unfold Hid;rw[<- Ba N,Pf b7];simp
    clear N;go_wp2_with fail;refine Qb (Ba HM) a8 ?_;intro w2 O b8;have f0:=stay O d3;have a9:=stay O b6;have f1:=stay O d2;have j:=Bb f1 0;simp at j;clear O a8 d3 b6 d2 K CB G m0 m1 m2 m3 m4 m5 m6 m7 m8 m9 c5 c6 c7 c8 c9 y0 y1 y2;go_wp2;go_roundw
    case rel=>exact⟨k+1,f+1,Bd,Lt,Lt,HG,b8,f0,a9⟩
    case measure=>simp[intOf];omega
  have Q:Hid (Fa=(0,0)):=by
   unfold Hid;rw[<- Ba HF,<- Ba B,Bvi Fm];rfl
  have kb:¬(k:Int)<(c.length:Int):=Bd;obtain⟨q0,q1,q2⟩:=fr3 G;obtain⟨j,C,D⟩:=cl3 G;simp at j C D;clear B;go_wp2_with fail;refine tb (.agg #[.i 0,.i 0,.i 0]) (by simp[results,B0d,go_sem,j,C,D]) ?_;rw[Ba Q];exact⟨rfl,((K.setCell Fr _).setCell Fr _).setCell Fr _⟩
namespace Cd
def Bjm(b:TI)(n:Int)(h:0<=n):hasM b n false=(decide (n<(b.length:Int))&&(b.getD n.toNat 0==255))/\hasM b n true=(decide (n<(b.length:Int))&&(b.getD n.toNat 0 != 255)):=by
 unfold hasM;have e:¬n<0:=Bd;simp only[Pf e];by_cases c:(b.length:Int)<=n;·have:decide (n<(b.length:Int))=false:=Fm;simp only[Sp c,this];simp
 have:decide (n<(b.length:Int))=true:=Fm;simp only[Pf c,this];cases f:(b.getD n.toNat 0 != 255)<;>simp_all
def argP_eq(T:TI)(m:Int)(f:TI)(p:Int)(c:TI)(op n:Int)(h:op=20\/op=21->0<=n):argP T m f p (insts c) op n=argB T m f p c op n:=by
 unfold argP argB;rw[find_beg];by_cases g:op=2\/op=3;·rw[Sp g,Sp g]
 rw[Pf g,Pf g];by_cases i:11<=op/\op<=14;·rw[Sp i,Sp i]
 rw[Pf i,Pf i];by_cases j:op=15\/op=16\/op=19;·rw[Sp j,Sp j]
 rw[Pf j,Pf j];by_cases l:op=17\/op=18;·rw[Sp l,Sp l]
 rw[Pf l,Pf l];by_cases b:op=20;·rw[Sp b,Sp b];exact(Bjm f n (h (.inl b))).1
 rw[Pf b,Pf b];by_cases e:op=21;·rw[Sp e,Sp e];exact(Bjm f n (h (.inr e))).2
 rw[Pf e,Pf e]
def Bqj(T c:TI)(k n:Int):mapTy T (insts c) k n=framed T c k n:=by
 unfold mapTy framed Tr.settledB Tr.plainB;by_cases b:k=4;·rw[Sp b,Bq0,Pf Bd,Pf Bd,Sp b]
 rw[Pf b];by_cases f:k=0\/k=2;·rw[Sp f,Sp Bd]
 rw[Pf f];by_cases g:k=1;·rw[Sp g,Sp Bd]
 have q:¬(k=0\/k=1\/k=2):=Bd;rw[Pf g,Pf q];by_cases e:k=3;·rw[Sp e,Sp e]
 rw[Pf e,Pf e,Pf b]
def Bef(T c:TI)(l:TP):mapTys T (insts c) l=frAll T c l:=by
 unfold mapTys frAll
 congr 1
 funext t
 exact Bqj T c t.1 t.2
def inMaps_eq(T c:TI)(l:List Rd.Mp):∀(i:Nat) (b:Int),inMaps T (insts c) i b l=mapsBad T c i (b-1) l:=by
 induction l with
 | nil=>intro i b;rfl
 | cons x r ih =>
  intro i b;rw[inMaps,mapsBad,ih];unfold mapMay;rw[find_beg,Bef,Bef];by_cases e:x.place<b;·rw[Sp e,Sp (show x.place<=b-1 by omega)];simp
  rw[Pf e,Pf (show ¬x.place<=b-1 by omega)];cases begB c x.place<;>cases frAll T c x.locals<;>cases frAll T c x.stack<;>simp
def hndMay_eq(m:Tr.Ok z)(A:1<z.length)(c:TI)(x:Rd.Hnd):hndMay z (insts c) (c.length:Int) x = !hndBad z c x:=by
 have p:Tr.within z x.cl 1=(if x.cl=1 then true else Tr.below z x.cl 1):=by
  unfold Tr.within;by_cases h:x.cl=1<;>simp[h]
 unfold hndMay hndBad;rw[find_beg,find_beg,find_beg,p];by_cases f:x.til<=x.frm;·rw[Sp f];simp[f]
 rw[Pf f];have q:decide (x.til<=x.frm)=false:=by simpa using f
 rw[q];cases begB c x.frm
 ·simp
 cases begB c x.target
 ·simp
 have s:(if x.cl=1 then true else Tr.below z x.cl 1)=(Tr.hasB z x.cl&&Tr.rbel z x.cl 1):=by
  by_cases i:Tr.hasB z x.cl=true
  ·rw[i,Bxn];have j:0<=x.cl/\x.cl<(z.length:Int):=by simpa[Tr.hasB] using i
   have e:=Tr.rbel_iff m (a:=x.cl) (b:=1) j.1 j.2 Bd;by_cases h:x.cl=1;·rw[Sp h];exact(e.2 (.inl h.symm)).symm
   rw[Pf h];refine Bool.eq_iff_iff.2 ⟨fun g=>e.2 (.inr g),fun g=>?_⟩;rcases e.1 g with g|g
   ·exact absurd g.symm h
   exact g
  have t:Tr.hasB z x.cl=false:=by simpa using i
  rw[t,Bx0];have B:¬(0<=x.cl/\x.cl<(z.length:Int)):=by simpa[Tr.hasB] using i
  rw[Pf Bd];have v:Tr.ov z x.cl = -1:=by
   unfold Tr.ov;by_cases g:x.cl<0;·rw[Sp g]
   rw[Pf g,Sp Bd]
  unfold Tr.below;rw[v];cases z.length<;>simp[Tr.upTo]
 rw[s];by_cases l:x.til=(c.length:Int);·cases begB c x.til<;>cases Tr.hasB z x.cl<;>cases Tr.rbel z x.cl 1<;>simp[l]
 cases begB c x.til<;>cases Tr.hasB z x.cl<;>cases Tr.rbel z x.cl 1<;>simp[l]
def Bhl(a b:List Rd.Cls):fieldSum (a++b)=fieldSum a+fieldSum b:=by
 induction a with
 | nil=>simp[fieldSum]
 | cons x r ih=>rw[Bws,fieldSum,fieldSum,ih];omega
def fields_eq(T:TI)(b:List Rd.Cls)(j:Nat)(f:j<=b.length):(Rf.fieldsTo T (Rf.given++b) j).length=fieldSum (b.take j):=by
 induction j with
 | zero=>simp[Rf.fieldsTo,fieldSum]
 | succ k ih =>
  have c:k<b.length:=Bd;have e:(Rf.given++b).getD (7+k) ⟨0,[]⟩=b[k]:=by
   rw[Th,Bvt (by simp[Rf.given])];simp[Rf.given,c]
  rw[Rf.fieldsTo,Up,Rf.ownOf,Oz,e,ih Bd,Bvs c,Bhl];simp[fieldSum]
end Cd
def Kt (f:Cd.Ins->Bool):List Cd.Ins->Int
 | []=>-1
 | x::r=>if f x=true then x.place else Kt f r
def Nj (T:TI)(nf:Int)(ow:TI)(lo:Int)(L:List Cd.Ins)(x:Cd.Ins):Bool:=!Cd.argP T nf ow lo L x.op x.n
def Pz (T:TI)(L:List Cd.Ins)(cn:Int)(x:Rd.Hnd):Bool:=!Cd.hndMay T L cn x
def Ot (T:TI)(nf:Int)(ow:TI)(m:Rd.Mth):Int × Int :=
 if 0<=Cd.unread m.code then (5,Cd.unread m.code)
 else if 0<=Kt (Nj T nf ow m.locals (Cd.insts m.code)) (Cd.insts m.code) then (5,Kt (Nj T nf ow m.locals (Cd.insts m.code)) (Cd.insts m.code))
 else if 0<=Cd.firstIx (Pz T (Cd.insts m.code) (m.code.length:Int)) 0 m.handlers then (6,Cd.firstIx (Pz T (Cd.insts m.code) (m.code.length:Int)) 0 m.handlers)
 else Cd.faultOf (Cd.inMaps T (Cd.insts m.code) 0 0 m.maps)
def Hk (T:TI)(nf:Int)(ow:TI):Nat->List Rd.Mth->Int × Int × Int
 | _,[]=>(0,0,0)
 | k,m::r=>if (Ot T nf ow m).1≠0 then ((Ot T nf ow m).1,(k:Int),(Ot T nf ow m).2) else Hk T nf ow (k+1) r
def Pj (T:TI)(r1 r2:Int):Bool:=if r1=0/\r2=0 then true else Tr.plainB T r1 r2
def M7 (a b:Rd.Mth):Bool:=if a.result≠b.result then false else decide (a.params=b.params)
def Py (T:TI)(m:Rd.Mth):Bool :=
 if Tr.allPlainB T m.params=false then false else if Pj T m.result.1 m.result.2=false then false
 else if m.cl=255 then (if m.name=0 then decide ((m.params.length:Int)<=m.locals) else false)
 else if m.cl<7 then false else if Tr.hasB T m.cl=false then false else decide ((m.params.length:Int)<m.locals)
def Mh (m o:Rd.Mth):Bool:=(o.cl==m.cl)&&(o.name==m.name)
def In (T:TI)(m o:Rd.Mth):Bool:=(o.name==m.name)&&(Tr.below T m.cl o.cl && !M7 o m)
def Si (es:List Rd.Mth)(m:Rd.Mth):Bool:=if m.cl=255 then false else es.any (Mh m)
def Mi (T:TI)(ms:List Rd.Mth)(m:Rd.Mth):Bool:=if m.cl=255 then false else ms.any (In T m)
def Vg (T:TI)(ms:List Rd.Mth)(k:Nat)(m:Rd.Mth):Bool :=
 if Py T m=false then true else if Si (ms.take k) m=true then true else Mi T ms m
def Jq (T:TI)(ms:List Rd.Mth):Nat->List Rd.Mth->Int
 | _,[]=>-1
 | k,m::r=>if Vg T ms k m=true then (k:Int) else Jq T ms (k+1) r
def X9 (T:TI)(nf:Int)(ms:List Rd.Mth):Int × Int × Int :=
 if 0<=Jq T ms 0 ms then (4,Jq T ms 0 ms,0) else Hk T nf (ms.map Rd.Mth.cl) 0 ms
def Ni (f:Rd.Fil):Int × Int × Int :=
 if (Tr.inCl (Tr.tree f.classes) 0 f.classes).1≠0 then ((Tr.inCl (Tr.tree f.classes) 0 f.classes).1,(Tr.inCl (Tr.tree f.classes) 0 f.classes).2,0)
 else X9 (Tr.tree f.classes) (Cd.fieldSum f.classes:Int) f.methods
def Ft (s:TB):Int × Int × Int:=if (Rd.read s).2≠0 then ((Rd.read s).2,0,0) else Ni (Rd.read s).1
def An{f:Nat->Bool}{l:List Nat}(h:Cd.first f l<0):∀p∈l,f p=false:=by
 induction l with
 | nil=>simp
 | cons p r ih =>
  obtain⟨c,e⟩:=Bet h;intro q b;simp only[Bxy]at b;rcases b with rfl|b
  ·exact c
  exact ih e q b
def Brc{c:Int}{e:TI}{B:Int}{b:TI}{op:Int}(h:Cd.wd op=1)(n f:Int):Cd.argB z c e B b op n=Cd.argB z c e B b op f:=by
 unfold Cd.wd at h;have i:¬(op=0\/op=2\/op=3\/(11<=op/\op<=21)):=by
  intro g;rw[Sp g]at h;omega
 unfold Cd.argB;rw[Pf Bd,Pf Bd,Pf Bd,Pf Bd,Pf Bd,Pf Bd];rw[Pf Bd,Pf Bd,Pf Bd,Pf Bd,Pf Bd,Pf Bd]
def Yy(b:∀x∈z,0<=x)(i:Nat):0<=z.getD i 0:=by
 rw[Th];by_cases h:i<z.length;·rw[Ws h];exact b _ (Bvh h)
 rw[Bwz Bd];simp
def Blc{c:Int}{e:TI}{B:Int}{b:TI}(j:∀x∈b,0<=x)(f:List Nat)(g:∀p∈f,Cd.noRead b p=false):Kt (Nj z c e B (Cd.insts b)) (f.map (Cd.insAt b))=Cd.first (Cd.badArg z c e B b) f:=by
 induction f with
 | nil=>rfl
 | cons p r ih =>
  rw[Bwm,Kt,Cd.first,ih (fun q l=>g q (Bv6 _ l))]
  have h:=g p (Bv1 ..);unfold Cd.noRead at h;simp only[Bxo,Bxb]at h;have m:Nj z c e B (Cd.insts b) (Cd.insAt b p)=Cd.badArg z c e B b p:=by
   unfold Nj Cd.badArg Cd.argAt Cd.insAt;simp only;have s:=Cd.wd_bd (b.getD p 0);by_cases i:Cd.wd (b.getD p 0)=2;·rw[Sp i,Cd.argP_eq z c e B b _ _ (fun _=>Yy j _)];unfold Cd.nAt;rw[Sp Bd]
   rw[Pf i,Cd.argP_eq z c e B b _ _ (fun _=>Bd),Brc Bd 0 (Cd.nAt b p)]
  rw[m];rfl
def Blb{α:Type}{f g:α->Bool}(h:∀x,f x=g x)(l:List α):∀k,Cd.firstIx f k l=Cd.firstIx g k l:=by
 induction l with
 | nil=>intro k;rfl
 | cons x r ih=>intro k;rw[Cd.firstIx,Cd.firstIx,h x,ih]
def Bs7(i:Tr.Ok z)(j:1<z.length)(c:Int)(e:TI)(m:Rd.Mth)(l:∀x∈m.code,0<=x):Ot z c e m=Ou z c e m:=by
 unfold Ot Ou Cd.badCode;by_cases b:0<=Cd.unread m.code;·rw[Sp b,Sp b,Sp b]
 rw[Pf b,Pf b];have p:Kt (Nj z c e m.locals (Cd.insts m.code)) (Cd.insts m.code)=Cd.first (Cd.badArg z c e m.locals m.code) (Cd.places m.code) :=
  Blc l (Cd.places m.code) (An (by unfold Cd.unread at b;omega))
 have s:Cd.firstIx (Pz z (Cd.insts m.code) (m.code.length:Int)) 0 m.handlers=Cd.firstIx (Cd.hndBad z m.code) 0 m.handlers :=
  Blb (fun x=>by unfold Pz;rw[Cd.hndMay_eq i j];simp) m.handlers 0
 rw[p,s,Cd.inMaps_eq];by_cases f:0<=Cd.first (Cd.badArg z c e m.locals m.code) (Cd.places m.code)
 ·rw[Sp f,Sp f]
 rw[Pf f,Pf f];by_cases g:0<=Cd.firstIx (Cd.hndBad z m.code) 0 m.handlers;·rw[Sp g,Sp g]
 rw[Pf g,Pf g];rw[show ((0:Int)-1) = -1 from rfl];generalize Cd.mapsBad z m.code 0 (-1) m.maps=q;unfold Cd.faultOf;by_cases h:q<0;·rw[Sp h,Pf Bd]
 rw[Pf h,Sp Bd]
def Boq(f:Tr.Ok z)(g:1<z.length)(b:Int)(c:TI)(l:List Rd.Mth)(e:∀m∈l,∀x∈m.code,0<=x):∀k,Hk z b c k l=Jy z b c k l:=by
 induction l with
 | nil=>intro k;rfl
 | cons m r ih =>
  intro k;rw[Hk,Jy,Bs7 f g b c m (e m (Bv1 ..)),ih (fun x h=>e x (Bv6 _ h))]
def Bll(b:Tr.Ok z){a:Int}(c:0<=a)(e:a<(z.length:Int)):Tr.below z a a=false:=by
 cases h:Tr.below z a a with
 | false=>rfl
 | true=>have:=Tr.below_lt b c e h;omega
def Bor(c:Tr.Ok z){a B:Int}(e:0<=B)(f:a<(z.length:Int))(g:a<=B):Tr.below z a B=false:=by
 cases h:Tr.below z a B with
 | false=>rfl
 | true=>have:=Tr.below_lt c e f h;omega
def Bq6(f:Tr.Ok z)(A:z.length<=200)(m o:Rd.Mth)(l:0<=m.cl)(h:m.cl<(z.length:Int))(q:0<=o.cl)(k i:Nat):Oe z m.cl m.name m.result.1 m.result.2 m.params k i o=((decide (i<k)&&Mh m o)||In z m o):=by
 unfold Oe Mh In;by_cases c:o.name≠m.name
 ·rw[Sp c];have:(o.name==m.name)=false:=by simpa using c
  rw[this];simp
 rw[Pf c];have s:(o.name==m.name)=true:=by simpa using c
 rw[s];by_cases j:o.cl=255;·rw[Sp j,j,Bor f Bd h Bd];have:((255:Int)==m.cl)=false:=Fm;rw[this];simp
 rw[Pf j];by_cases b:o.cl=m.cl;·rw[Sp b,b,Bll f l h];simp
 rw[Pf b];have t:(o.cl==m.cl)=false:=by simpa using b
 have v:Tr.rbel z m.cl o.cl=Tr.below z m.cl o.cl:=by
  have e:=Tr.rbel_iff f l h q;refine Bool.eq_iff_iff.2 ⟨fun g=>?_,fun g=>e.2 (.inr g)⟩;rcases e.1 g with g|g
  ·exact absurd g b
  exact g
 rw[t,v];unfold M7;by_cases p:o.result=m.result;·simp[p]
 simp[p]
def Bsc(e:Tr.Ok z)(f:z.length<=200)(m:Rd.Mth)(g:0<=m.cl)(h:m.cl<(z.length:Int))(k:Nat)(l:List Rd.Mth)(b:∀o∈l,0<=o.cl):∀i,Jg z m.cl m.name m.result.1 m.result.2 m.params k i l=(!(l.take (k-i)).any (Mh m) && !l.any (In z m)):=by
 induction l with
 | nil=>intro i;simp[Jg]
 | cons o r ih =>
  intro i;rw[Jg,Bq6 e f m o g h (b o (Bv1 ..)),ih (fun x j=>b x (Bv6 _ j))];by_cases c:i<k
  ·rw[show k-i=(k-(i+1))+1 by omega,Byq,Byb,Byb];have:decide (i<k)=true:=by simpa using c
   rw[this];cases Mh m o<;>cases In z m o<;>simp
  rw[show k-i=0 by omega,show k-(i+1)=0 by omega,Byb];have:decide (i<k)=false:=by simpa using c
  rw[this];cases In z m o<;>simp
def Bsz(l:Tr.Ok z)(p:z.length<=200)(e:List Rd.Mth)(q:∀o∈e,0<=o.cl)(k:Nat)(m:Rd.Mth)(C:0<=m.cl):Vg z e k m = !Ip z e k m:=by
 unfold Vg Ip Rx Py Pj Si Mi Yf Nn;cases D:Tr.allPlainB z m.params with
 | false=>simp
 | true =>
  have s:(if m.result.1=0/\m.result.2=0 then true else Tr.plainB z m.result.1 m.result.2) = !(!Tr.plainB z m.result.1 m.result.2 && !decide ((m.result.1,m.result.2)=((0:Int),(0:Int)))):=by
   by_cases h:m.result.1=0/\m.result.2=0;·rw[Sp h];simp[h]
   rw[Pf h];have:decide ((m.result.1,m.result.2)=((0:Int),(0:Int)))=false:=by simpa using h
   rw[this];simp
  rw[s];generalize (!Tr.plainB z m.result.1 m.result.2 && !decide ((m.result.1,m.result.2)=((0:Int),(0:Int))))=R;cases R with
  | true=>simp
  | false =>
   by_cases c:m.cl=255
   ·simp only[Sp c];by_cases b:m.name=0
    ·by_cases f:(m.params.length:Int)<=m.locals;·have g:¬m.locals<(m.params.length:Int):=Bd;simp[c,b,f,g]
     have g:m.locals<(m.params.length:Int):=Bd;simp[c,b,f,g]
    simp[b]
   simp only[Pf c];by_cases b:m.cl<7;·simp[b]
   cases f:Tr.hasB z m.cl with
   | false=>simp[b]
   | true =>
    have i:0<=m.cl/\m.cl<(z.length:Int):=by simpa[Tr.hasB] using f
    by_cases j:(m.params.length:Int)<m.locals;·have t:¬m.locals<(m.params.length:Int):=Bd;have v:¬m.locals=(m.params.length:Int):=Bd;rw[Bsc l p m i.1 i.2 k e q 0];simp only[Nat.sub_zero];cases (e.take k).any (Mh m)<;>cases e.any (In z m)<;>simp[c,b,j,t,v]
    by_cases A:m.locals<(m.params.length:Int);·simp[c,b,j,A]
    have B:m.locals=(m.params.length:Int):=Bd;simp[c,b,B]
def Bqu(e:Tr.Ok z)(f:z.length<=200)(b:List Rd.Mth)(g:∀o∈b,0<=o.cl)(l:List Rd.Mth)(c:∀o∈l,0<=o.cl):∀k,Jq z b k l=Ho z b k l:=by
 induction l with
 | nil=>intro k;rfl
 | cons m r ih =>
  intro k;rw[Jq,Ho,Bsz e f b g k m (c m (Bv1 ..)),ih (fun x h=>c x (Bv6 _ h))];cases Ip z b k m<;>simp
def Bjb(e:Tr.Ok z)(g:z.length<=200)(h:1<z.length)(c:Int)(b:List Rd.Mth)(f:∀o∈b,0<=o.cl)(i:∀m∈b,∀x∈m.code,0<=x):X9 z c b=Tx z c b:=by
 unfold X9 Tx;rw[Bqu e g b f b f,Boq e h c _ b i]
structure Uy(m:Rd.Mth):Prop where
 ps:m.params.length<=8
 code:m.code.length<=120
 code0:∀x∈m.code,0<=x
 hs:m.handlers.length<=4
 mp:m.maps.length<=64
 fr:∀p∈m.maps,p.locals.length<=8/\p.stack.length<=8/\0<=p.place/\p.place<=255
 cl:0<=m.cl
def Bu6(s:TB)(L H:Int)(c:L<=8)(b:0<=H)(e:H<=8)(t:Rd.St):(Rd.mp s L H t).1.locals.length<=8/\(Rd.mp s L H t).1.stack.length<=8/\0<=(Rd.mp s L H t).1.place/\(Rd.mp s L H t).1.place<=255:=by
 simp only[Rd.mp,Rd.tys,Rd.rep_len];have:=Rd.cn_bd s 0 H (Rd.rep (Rd.ty s) L.toNat (Rd.nx s t).2).2 b;have:=Rd.nx_bd s t;omega
def Br8(s:TB)(t:Rd.St):Uy (Rd.mth s t).1:=by
 simp only[Rd.mth];generalize (Rd.nx s (Rd.nx s t).2).2=b;have i:=Rd.cn_bd s 0 4 b Bd;generalize Rd.cn s 0 4 b=p at *;generalize (Rd.tys s p.1.toNat p.2).2=f;generalize (Rd.ty s f).2=c;have g:=Rd.cn_bd s 0 8 c Bd;generalize Rd.cn s 0 8 c=l at *;have e:=Rd.cn_bd s 0 8 l.2 Bd;generalize Rd.cn s 0 8 l.2=h at *;refine⟨?_,?_,?_,?_,?_,?_,?_⟩
 ·simp only[Rd.tys,Rd.rep_len];omega
 ·simp only[Rd.codes,Rd.rep_len];have:=Rd.cn_bd s 1 120 h.2 Bd;omega
 ·simp only[Rd.codes];exact Sb (fun x:Int=>0<=x) _ (fun t=>Bgp s t) _ _
 ·simp only[Rd.hnds,Rd.rep_len];have:=Rd.cn_bd s 0 4 (Rd.codes s h.2).2 Bd;omega
 ·simp only[Rd.mps,Rd.rep_len];have:=Rd.cn_bd s 0 64 (Rd.hnds s (Rd.codes s h.2).2).2 Bd;omega
 ·simp only[Rd.mps];exact Sb (fun p:Rd.Mp=>p.locals.length<=8/\p.stack.length<=8/\0<=p.place/\p.place<=255) _ (fun t=>Bu6 s l.1 h.1 g.2 e.1 e.2 t) _ _
 exact Bgp s t
def Vx(s:TB):(Rd.read s).1.methods.length<=6/\∀m∈(Rd.read s).1.methods,Uy m:=by
 unfold Rd.read
 split
 ·simp
 split
 ·simp
 simp only[Rd.fil];refine⟨?_,Sb Uy _ (fun t=>Br8 s t) _ _⟩;rw[Rd.rep_len];have:=Rd.cn_bd s 1 6 (Rd.rep (Rd.cls s) (Rd.cn s 0 6 (Rd.ex s 77 (Rd.ex s 83 ⟨0,false⟩))).1.toNat (Rd.cn s 0 6 (Rd.ex s 77 (Rd.ex s 83 ⟨0,false⟩))).2).2 Bd;omega
def Bn2(l:TI)(b:List Rd.Cls):∀k:Nat,((Tr.inCl l k b).1=0\/(Tr.inCl l k b).1=3)/\0<=(Tr.inCl l k b).2:=by
 induction b with
 | nil=>intro k;exact⟨.inl rfl,by show (0:Int)<=0;omega⟩
 | cons c r ih =>
  intro k;unfold Tr.inCl
  split
  ·exact⟨.inr rfl,by show (0:Int)<=7+(k:Int);omega⟩
  split
  ·exact⟨.inr rfl,by show (0:Int)<=7+(k:Int);omega⟩
  exact ih _
def M3(s:TB):Ft s=Rf.formed s:=by
 obtain⟨b,z⟩:=Bbd s;have f:=Blg s;obtain⟨A,j⟩:=Vx s;obtain⟨B,_⟩:=Xt s;unfold Ft Rf.formed Rf.nf;unfold Rf.classed at f ⊢;by_cases g:15000<s.length;·rw[Sp g]at b;rw[b];simp[g]
 rw[Pf g]at b;simp only[Pf g]at f ⊢;by_cases i:(Rf.fil s).2.2≠(s.length:Int);·rw[Sp i]at b;rw[b];simp[i]
 rw[Pf i]at b;simp only[Pf i]at f ⊢;rw[Pf (by rw[b];simp)];obtain⟨p,q⟩:=z b;unfold Ni;rw[p]at B;rw[q]at A j;rw[p,q];have t:=Bn2 (Tr.tree (Rf.fil s).1) (Rf.fil s).1 0;have v:=Cd.fields_eq (Tr.tree (Rf.fil s).1) (Rf.fil s).1 (Rf.fil s).1.length (Wf _);rw[Byk]at v;rw[v];generalize J:Tr.inCl (Tr.tree (Rf.fil s).1) 0 (Rf.fil s).1=I at *;by_cases c:I.1=0
 ·have l:¬0<=Tr.badOf I:=by unfold Tr.badOf;rw[Sp c];omega
  simp only[Pf l]at f ⊢;rw[Pf (fun h=>h c),Pf Fr];have C:=(f trivial).1;have K:=Ix (Rf.fil s).1;exact Bjb C Bd Bd _ _ (fun o D=>(j o D).cl) (fun m F=>(j m F).code0)
 have l:0<=Tr.badOf I:=by unfold Tr.badOf;rw[Pf c];exact t.2
 have e:Tr.badOf I=I.2:=by unfold Tr.badOf;rw[Pf c]
 have G:I.1=3:=t.1.resolve_left c;rw[Sp c,Sp l,Sp Fr,e,G]
structure PM where
 cl:Int
 nm:Int
 pa:Option Addr
 pl:Nat
 pc:Nat
 r1:Int
 r2:Int
 lo:Int
 st:Int
 ca:Option Addr
 cn:Nat
 cc:Nat
 ha:Option Addr
 hl:Nat
 hc:Nat
 ma:Option Addr
 ml:Nat
 mc:Nat
def PM.val(m:PM):Value:=.agg #[.int .i64 m.cl,.int .i64 m.nm,.slice m.pa m.pl m.pc,.int .i64 m.r1,.int .i64 m.r2,.int .i64 m.lo,.int .i64 m.st,.slice m.ca m.cn m.cc,.slice m.ha m.hl m.hc,.slice m.ma m.ml m.mc]
def PM.list(m:PM):List Value:=[.int .i64 m.cl,.int .i64 m.nm,.slice m.pa m.pl m.pc,.int .i64 m.r1,.int .i64 m.r2,.int .i64 m.lo,.int .i64 m.st,.slice m.ca m.cn m.cc,.slice m.ha m.hl m.hc,.slice m.ma m.ml m.mc]
structure PM.is(m:PM)(x:Rd.Mth)(w:World)(bb:Nat):Prop where
 cl:m.cl=x.cl
 nm:m.nm=x.name
 r1:m.r1=x.result.1
 r2:m.r2=x.result.2
 lo:m.lo=x.locals
 st:m.st=x.stack
 pl:m.pl=x.params.length
 ps:Dp w bb (.slice m.pa m.pl m.pc) x.params
 cn:m.cn=x.code.length
 code:Du w bb (.slice m.ca m.cn m.cc) x.code
 hl:m.hl=x.handlers.length
 hs:J5 w bb (.slice m.ha m.hl m.hc) x.handlers
 ml:m.ml=x.maps.length
 mp:Bru w bb (.slice m.ma m.ml m.mc) x.maps
def PM.is.kp{m:PM}{x:Rd.Mth}{w b:TW}{u:Nat}(h:m.is x w u){e:Option TypeId}(c:Kp e u w b)(f:some 31≠e)(g:some 3≠e)(i:some 267≠e)(j:some 266≠e):m.is x b u:=by
 obtain⟨p,q,s,t,v,z,A,B,C,D,F,G,I,l,J,K⟩:=h;exact⟨p,q,s,t,v,z,A,B.kp c f,C,D.kp c g,F,G.kp c i,I,l,J,K.kp c j f⟩
def PM.is.below{m:PM}{x:Rd.Mth}{w b:TW}{u:Nat}(h:m.is x w u)(c:Bl w b):m.is x b u:=h.kp (Kp.of_below (e:=none) c) Ck Ck Ck Ck
def Bp7(l:List (Rd.Mth×Eh))(k:Nat)(b:k<l.length)(j:Nat)(c:j<10):(Kw l)[k*10+j]?=(Ly l[k].1 l[k].2)[j]?/\k*10+j<(Kw l).length:=by
 refine⟨M5 (fun x:Rd.Mth×Eh=>Ly x.1 x.2) 10 (fun _=>rfl) l k b j c,?_⟩;unfold Kw;rw[Kq (fun x:Rd.Mth×Eh=>Ly x.1 x.2) 10 (fun _=>rfl) l];omega
theorem Eb.mth{w:World}{u:Nat}{a:Option Addr}{n j:Nat}{L:List (Rd.Mth×Eh)}(h:Eb w u (.slice a n j) L){k:Nat}(A:k<L.length):∃(m:PM) (g:Nat),a=some ⟨g,0,none⟩/\g<w.heap.size/\(∀e v,m.list[e]?=some v->w.cell? ⟨g,k*10+e,none⟩=some v)/\m.is L[k].1 w u:=by
 obtain⟨B,I⟩:=h;obtain⟨xa,xc,C⟩:=Bg B;simp only[Value.slice.injEq]at C;obtain⟨rfl,rfl,rfl⟩:=C;obtain⟨g,J,K,_,N⟩:=Cf B Bd;obtain⟨i,p,q,s,D,t⟩:=I _ (Bvh A);have F:=fun e z=>Bp7 L k A e z;generalize L[k]=x at *;obtain⟨x,f⟩:=x;obtain⟨up,uc,uh,um⟩:=f;simp only at i p q t F;obtain⟨O,Q,rfl⟩:=Bg i;obtain⟨V,Y,rfl⟩:=Bg p;obtain⟨Z,a0,rfl⟩:=Bg q;obtain⟨ma,mc,rfl⟩:=Bg t.1;have a1:s.length=x.maps.length:=by rw[<- D];simp
 refine⟨⟨x.cl,x.name,O,x.params.length,Q,x.result.1,x.result.2,x.locals,x.stack,V,x.code.length,Y,Z,x.handlers.length,a0,ma,s.length,mc⟩,g,J,K,?_,⟨rfl,rfl,rfl,rfl,rfl,rfl,rfl,i,rfl,p,rfl,q,a1,s,D,t⟩⟩;intro e v G;have z:e<10:=by
  have:=(List.getElem?_eq_some_iff.1 G).1;simpa[PM.list] using this
 obtain⟨e1,e2⟩:=F e z;rw[N _ e2,e1,<- G];rfl
def Ub{m:PM}{w:TW}{u k:Nat}(h:∀j v,m.list[j]?=some v->w.C u (k*10+j) v):w.C u (k*10) (.i m.cl)/\w.C u (k*10+1) (.i m.nm)/\w.C u (k*10+2) (.s m.pa m.pl m.pc)/\w.C u (k*10+3) (.i m.r1)/\w.C u (k*10+4) (.i m.r2)/\w.C u (k*10+5) (.i m.lo)/\w.C u (k*10+6) (.i m.st)/\w.C u (k*10+7) (.s m.ca m.cn m.cc)/\w.C u (k*10+8) (.s m.ha m.hl m.hc)/\w.C u (k*10+9) (.s m.ma m.ml m.mc) :=
 ⟨h 0 _ rfl,h 1 _ rfl,h 2 _ rfl,h 3 _ rfl,h 4 _ rfl,h 5 _ rfl,h 6 _ rfl,h 7 _ rfl,h 8 _ rfl,h 9 _ rfl⟩
variable {ya:Option Addr}{yn yc:Nat}
def Bfd(T:TI)(a:TA)(f:Nat)(k n:Int)(w:TW):Calls prog 211 #[.agg #[.s a T.length f,.s ya yn yc],.agg #[.i k,.i n]] w fun e l=>e=.r (.bool (Pj T k n))/\Bl w l:=by
 have g:=fun w=>Ue (ya:=ya) (yn:=yn) (yc:=yc) T a f k n w;unfold Pj;generalize Tr.plainB T k n=P at *;have j:=Bc g;clear g;by_cases h:k=0/\n=0;·rw[Sp h];obtain⟨rfl,rfl⟩:=h;go_in;go_wp2;go_ret;exact⟨rfl,Bx _ _ _⟩
 rw[Pf h];by_cases b:k=0
 ·subst b;have m:(n==0)=false:=by simpa using h
  clear h;go_in;go_wp2_with fail;refine Qm (Ba j _) ?_;intro p c;go_wp2;go_ret;exact⟨rfl,(Bx _ _ _).trans (c.mono Fm)⟩
 have m:(k==0)=false:=by simpa using b
 clear h b;go_in;go_wp2_with fail;refine Qm (Ba j _) ?_;intro p c;go_wp2;go_ret;exact⟨rfl,(Bx _ _ _).trans (c.mono Fm)⟩
def Bir(T:TI)(a:TA)(Z bb:Nat)(m:PM)(x:Rd.Mth)(w:TW)(V:m.is x w bb)(a6:x.params.length<=1000):Calls prog 159 #[.agg #[.s a T.length Z,.s ya yn yc],m.val] w fun e w'=>e=.r (.bool (Py T x))/\Bl w w':=by
 have hA:=fun w' (h:Bl w w')=>Wk (ya:=ya) (yn:=yn) (yc:=yc) T a Z m.pa m.pl m.pc bb x.params w' a6 (V.below h).ps;have hR:=fun w=>Bfd (ya:=ya) (yn:=yn) (yc:=yc) T a Z m.r1 m.r2 w;have hH:=fun w=>Bdf (ya:=ya) (yn:=yn) (yc:=yc) T a Z m.cl w;generalize b:Py T x=R;unfold Py at b;rw[<- V.cl,<- V.nm,<- V.r1,<- V.r2,<- V.lo,<- V.pl]at b;generalize Tr.allPlainB T x.params=A at *;clear V a6;obtain⟨O,nm,pa,pl,pc,r1,r2,lo,st,ca,cn,cc,ha,hl,hc,ma,ml,mc⟩:=m;simp only[PM.val]at hA hR hH b ⊢;generalize Pj T r1 r2=B at *;generalize Tr.hasB T O=K at *;have HA:=Bc hA;have HR:=Bc hR;have HH:=Bc hH;clear hA hR hH;have Y:=Bx w (O2 a T.length Z ya yn yc) (O18 O nm pa pl pc r1 r2 lo st ca cn cc ha hl hc ma ml mc);have a1:=Cb w (O2 a T.length Z ya yn yc) (O18 O nm pa pl pc r1 r2 lo st ca cn cc ha hl hc ma ml mc);have a2:=Bv w (O2 a T.length Z ya yn yc) (O18 O nm pa pl pc r1 r2 lo st ca cn cc ha hl hc ma ml mc);have a0:=Bc (Ba HA _ Y);clear HA;cases A with
 | false =>
  have G:Hid (R=false):=by unfold Hid;rw[<- b];simp
  clear b;go_in;go_wp2_with fail;refine Qm (Ba a0) ?_;intro w1 z;go_wp2;go_ret;exact⟨by rw[Ba G];rfl,QB Y z⟩
 | true =>
  cases B with
  | false =>
   have G:Hid (R=false):=by unfold Hid;rw[<- b];simp
   clear b;go_in;go_wp2_with fail;refine Qb (Ba a0) Y ?_;intro w1 z L;have I:=stay z a1;have F:=stay z a2;obtain⟨C,D⟩:=cl2 I;simp at C D;obtain⟨c,f,g,i,j,l,p,q,t,v⟩:=N7 F;simp at c f g i j l p q t v;go_wp2_with fail;refine Qm (Ba HR _) ?_;intro w2 J;go_wp2;go_ret;exact⟨by rw[Ba G];rfl,QB L J⟩
  | true =>
   have a3:Hid ((if O=255 then (if nm=0 then decide ((pl:Int)<=lo) else false) else if O<7 then false else if K=false then false else decide ((pl:Int)<lo))=R):=by unfold Hid;rw[<- b];simp
   clear b;by_cases h1:O=255
   ·subst h1;have b:=Ba a3;rw[Sp rfl]at b;clear a3;by_cases h2:nm=0;·subst h2;rw[Sp rfl]at b;have G:=Bc b;clear b;go_in;go_wp2_with fail;refine Qb (Ba a0) Y ?_;intro w1 z L;have I:=stay z a1;have F:=stay z a2;obtain⟨C,D⟩:=cl2 I;simp at C D;obtain⟨c,f,g,i,j,l,p,q,t,v⟩:=N7 F;simp at c f g i j l p q t v;go_wp2_with fail;refine Qb (Ba HR _) L ?_;intro w2 J Q;have N:=stay J F;clear c f g i j l p q t v;obtain⟨c,f,g,i,j,l,p,q,t,v⟩:=N7 N;simp at c f g i j l p q t v;go_wp2;go_ret;exact⟨by rw[<- Ba G];rfl,Q⟩
    rw[Pf h2]at b;have a9:(nm==0)=false:=by simpa using h2
    have G:=Bc b;clear b h2;go_in;go_wp2_with fail;refine Qb (Ba a0) Y ?_;intro w1 z L;have I:=stay z a1;have F:=stay z a2;obtain⟨C,D⟩:=cl2 I;simp at C D;obtain⟨c,f,g,i,j,l,p,q,t,v⟩:=N7 F;simp at c f g i j l p q t v;go_wp2_with fail;refine Qb (Ba HR _) L ?_;intro w2 J Q;have N:=stay J F;clear c f g i j l p q t v;obtain⟨c,f,g,i,j,l,p,q,t,v⟩:=N7 N;simp at c f g i j l p q t v;go_wp2;go_ret;exact⟨by rw[<- Ba G];rfl,Q⟩
   have b:=Ba a3;rw[Pf h1]at b;have b0:(O==255)=false:=by simpa using h1
   clear a3 h1;by_cases h2:O<7;·rw[Sp h2]at b;have G:=Bc b;clear b;go_in;go_wp2_with fail;refine Qb (Ba a0) Y ?_;intro w1 z L;have I:=stay z a1;have F:=stay z a2;obtain⟨C,D⟩:=cl2 I;simp at C D;obtain⟨c,f,g,i,j,l,p,q,t,v⟩:=N7 F;simp at c f g i j l p q t v;go_wp2_with fail;refine Qb (Ba HR _) L ?_;intro w2 J Q;have N:=stay J F;clear c f g i j l p q t v;obtain⟨c,f,g,i,j,l,p,q,t,v⟩:=N7 N;simp at c f g i j l p q t v;go_wp2;go_ret;exact⟨by rw[<- Ba G];rfl,Q⟩
   rw[Pf h2]at b;cases K with
   | false =>
    rw[Sp rfl]at b;have G:=Bc b;clear b;go_in;go_wp2_with fail;refine Qb (Ba a0) Y ?_;intro w1 z L;have I:=stay z a1;have F:=stay z a2;obtain⟨C,D⟩:=cl2 I;simp at C D;obtain⟨c,f,g,i,j,l,p,q,t,v⟩:=N7 F;simp at c f g i j l p q t v;go_wp2_with fail;refine Qb (Ba HR _) L ?_;intro w2 J Q;have N:=stay J F;have a4:=stay J I;clear c f g i j l p q t v C D;obtain⟨C,D⟩:=cl2 a4;simp at C D;obtain⟨c,f,g,i,j,l,p,q,t,v⟩:=N7 N;simp at c f g i j l p q t v;go_wp2_with fail;refine Qm (Ba HH _) ?_;intro w3 a5;go_wp2;go_ret;exact⟨by rw[<- Ba G];rfl,QB Q a5⟩
   | true =>
    rw[Pf Fr]at b;have G:=Bc b;clear b;go_in;go_wp2_with fail;refine Qb (Ba a0) Y ?_;intro w1 z L;have I:=stay z a1;have F:=stay z a2;obtain⟨C,D⟩:=cl2 I;simp at C D;obtain⟨c,f,g,i,j,l,p,q,t,v⟩:=N7 F;simp at c f g i j l p q t v;go_wp2_with fail;refine Qb (Ba HR _) L ?_;intro w2 J Q;have N:=stay J F;have a4:=stay J I;clear c f g i j l p q t v C D;obtain⟨C,D⟩:=cl2 a4;simp at C D;obtain⟨c,f,g,i,j,l,p,q,t,v⟩:=N7 N;simp at c f g i j l p q t v;go_wp2_with fail;refine Qb (Ba HH _) Q ?_;intro w3 a5 a7;have a8:=stay a5 N;clear c f g i j l p q t v C D;obtain⟨c,f,g,i,j,l,p,q,t,v⟩:=N7 a8;simp at c f g i j l p q t v;go_wp2;go_ret;exact⟨by rw[<- Ba G];rfl,a7⟩
def Bk4(b:List Rd.Mth)(ea:TA)(ec:Nat)(m:PM)(x:Rd.Mth)(w:TW)(I:m.cl=x.cl)(a2:m.nm=x.name)(c5:b.length<=1000) (HM:∀l,Bl w l->∀k (hk:k<b.length),∃(o:PM) (g:Nat),ea=some ⟨g,0,none⟩/\g<l.heap.size/\(∀j v,o.list[j]?=some v->l.C g (k*10+j) v)/\o.cl=b[k].cl/\o.nm=b[k].name):Calls prog 160 #[.s ea b.length ec,m.val] w fun e l=>e=.r (.bool (Si b x))/\Bl w l:=by
 generalize c:Si b x=R;unfold Si at c;rw[<- I]at c;have J:∀o,Mh x o=((o.cl==m.cl)&&(o.name==m.nm)):=fun o=>by unfold Mh;rw[I,a2]
 obtain⟨f,p,K,L,N,O,Q,V,Y,Z,cn,cc,ha,hl,hc,ma,ml,mc⟩:=m;simp only[PM.val]at c J ⊢;have c2:=Bc HM;have c3:=Bc J;have a0:Bl w (w.alloc (O18 f p K L N O Q V Y Z cn cc ha hl hc ma ml mc)):=QN _;have a3:=Bf w (O18 f p K L N O Q V Y Z cn cc ha hl hc ma ml mc);clear HM J I a2;by_cases t:f=255;·subst t;rw[Sp rfl]at c;have q:=Bc c;clear c;go_in;go_wp2;go_ret;exact⟨by rw[<- Ba q];rfl,a0⟩
 rw[Pf t]at c;have c6:(f==255)=false:=by simpa using t
 have h:Hid ((b.drop 0).any (Mh x)=R):=c;clear c t;go_in;go_wp2
 go_loopw [12] (fun v wr=>∃k:Nat,k<=b.length/\v=.i (k:Int)/\Hid ((b.drop k).any (Mh x)=R)/\Bl w wr/\wr.heap[w.heap.size]?=some (O18 f p K L N O Q V Y Z cn cc ha hl hc ma ml mc))
  (fun v _=>b.length-(intOf v).toNat)
 case atStart=>exact⟨0,Bd,rfl,h,a0,a3⟩
 case round=>
  clear h a0 a3;obtain⟨k,hk,rfl,h,z,CM⟩:=hrel;have c4:=z.size;have lM:=Pk CM;obtain⟨m0,m1⟩:=cl2 CM;simp at m0 m1;by_cases a4:k<b.length
  ·obtain⟨o,g,hg,c7,A,e1,e2⟩:=Ba c2 _ z k a4;replace A:=Ub A;have hd:b.drop k=b[k]::b.drop (k+1):=Wr a4;have c:=Ba h;rw[hd,Byb,Ba c3,<- e1,<- e2]at c;obtain⟨B,D,a5,a6,a7,a8,a9,b0,b1,b2,b3,b4,b5,b6,b7,b8,b9,c0⟩:=o;simp only at A c;obtain⟨y0,y1,y2,y3,y4,y5,y6,y7,y8,y9⟩:=A;have kb:(k:Int)<(b.length:Int):=Bd;have a1:=z.alloc c4 (O18 B D a5 a6 a7 a8 a9 b0 b1 b2 b3 b4 b5 b6 b7 b8 b9 c0);have c1:=Bk CM (O18 B D a5 a6 a7 a8 a9 b0 b1 b2 b3 b4 b5 b6 b7 b8 b9 c0);clear hd e1 e2 h;subst hg;by_cases F:B=f
   ·subst F;by_cases G:D=p
    ·subst G;have q:Hid (R=true):=by unfold Hid;rw[<- c];simp
     clear c;go_wp2;go_ret;exact⟨by rw[Ba q];rfl,a1⟩
    have HG:Hid ((b.drop (k+1)).any (Mh x)=R):=by unfold Hid;rw[<- c];simp[G]
    have c8:(D==p)=false:=by simpa using G
    clear c G;go_wp2;go_roundw
    case rel=>exact⟨k+1,Bd,Lt,HG,a1,c1⟩
    case measure=>simp[intOf];omega
   have HG:Hid ((b.drop (k+1)).any (Mh x)=R):=by unfold Hid;rw[<- c];simp[F]
   have c9:(B==f)=false:=by simpa using F
   clear c F;go_wp2;go_roundw
   case rel=>exact⟨k+1,Bd,Lt,HG,a1,c1⟩
   case measure=>simp[intOf];omega
  have q:Hid (R=false):=by unfold Hid;rw[<- Ba h,Bvi Bd];rfl
  have kb:¬(k:Int)<(b.length:Int):=Bd;clear h;go_wp2;go_ret;exact⟨by rw[Ba q];rfl,z⟩
def Bf3(o m:PM)(y x:Rd.Mth)(Q:Nat)(w:TW)(J:o.is y w Q)(K:m.is x w Q)(d4:y.params.length<=1000)(d5:x.params.length<=1000):Calls prog 213 #[o.val,m.val] w fun e f=>e=.r (.bool (M7 y x))/\Bl w f:=by
 generalize b:M7 y x=R;unfold M7 at b;have hy:y.result=(o.r1,o.r2):=by rw[J.r1,J.r2]
 have hx:x.result=(m.r1,m.r2):=by rw[K.r1,K.r2]
 rw[hy,hx]at b;have a0:∀f,Bl w f->Dp f Q (.s o.pa o.pl o.pc) y.params:=fun f h=>(J.below h).ps;have a4:∀f,Bl w f->Dp f Q (.s m.pa m.pl m.pc) x.params:=fun f h=>(K.below h).ps;have eo:=J.pl;have em:=K.pl;clear hy hx J K;generalize y.params=A at *;generalize x.params=B at *;obtain⟨a5,a6,a7,d6,a8,j,l,a9,b0,b4,b5,b6,b7,b8,b9,c0,c1,c2⟩:=o;obtain⟨V,Y,Z,pl,pc,C,D,lo,st,ca,cn,cc,ha,hl,hc,ma,ml,mc⟩:=m;simp only at eo em;subst eo em;simp only[PM.val]at b a0 a4 ⊢;have HO:=Bc a0;have HM:=Bc a4;have L:=Bx w (O18 a5 a6 a7 A.length a8 j l a9 b0 b4 b5 b6 b7 b8 b9 c0 c1 c2) (O18 V Y Z B.length pc C D lo st ca cn cc ha hl hc ma ml mc);have c8:=Cb w (O18 a5 a6 a7 A.length a8 j l a9 b0 b4 b5 b6 b7 b8 b9 c0 c1 c2) (O18 V Y Z B.length pc C D lo st ca cn cc ha hl hc ma ml mc);have c5:=Bv w (O18 a5 a6 a7 A.length a8 j l a9 b0 b4 b5 b6 b7 b8 b9 c0 c1 c2) (O18 V Y Z B.length pc C D lo st ca cn cc ha hl hc ma ml mc);clear a0 a4;by_cases F:j=C/\l=D
 ·rw[Pf (by simp[F])]at b;obtain⟨rfl,rfl⟩:=F;by_cases h2:A.length=B.length
  ·have t:Hid (decide (A.drop 0=B.drop 0)=R):=b;have c9:((A.length:Int) != (B.length:Int))=false:=by simp[h2]
   have d7:A.length<=B.length:=Bd;have d8:B.length<=A.length:=Bd;clear b h2;go_in;go_wp2
   go_loopw [24] (fun v wr=>∃k:Nat,k<=A.length/\v=.i (k:Int)/\Hid (decide (A.drop k=B.drop k)=R)/\Bl w wr/\wr.heap[w.heap.size+1]?=some (O18 V Y Z B.length pc j l lo st ca cn cc ha hl hc ma ml mc))
    (fun v _=>A.length-(intOf v).toNat)
   case atStart=>exact⟨0,Bd,rfl,t,L,c5⟩
   case round=>
    clear t L c5 c8;obtain⟨k,hk,rfl,t,N,CM⟩:=hrel;have d0:=N.size;have lM:=Pk CM;have m2:=Bb CM 2;simp at m2;by_cases c6:k<A.length
    ·have c7:k<B.length:=Bd;obtain⟨ga,d1,d9,_,c3⟩:=Cf (Ba HO _ N) Bd;obtain⟨gb,d2,f0,_,c4⟩:=Cf (Ba HM _ N) Bd;obtain⟨a1,a2,a3⟩:=Gc A k c6;obtain⟨b1,b2,b3⟩:=Gc B k c7;have x0:=(c3 (k*2) Bd).trans a1;have x1:=(c3 (k*2+1) Bd).trans a2;have y0:=(c4 (k*2) Bd).trans b1;have y1:=(c4 (k*2+1) Bd).trans b2;have b:=Ba t;rw[We c6 c7]at b;have kb:(k:Int)<(A.length:Int):=Bd;have f1:(k:Int)<(B.length:Int):=Bd;have f2:decide ((B.length:Int)<=(k:Int))=false:=Fm;generalize A[k]=p at *;generalize B[k]=q at *;obtain⟨G,I⟩:=p;obtain⟨q1,q2⟩:=q;simp only at x0 x1 y0 y1;have c:=N.alloc d0 (O7 G I);have d3:=Bk CM (O7 G I);have f3:¬((B.length:Int)<=(k:Int)):=Bd;clear c3 c4 a1 a2 a3 b1 b2 b3 t;subst d1 d2;by_cases O:G=q1/\I=q2
     ·obtain⟨rfl,rfl⟩:=O;have HG:Hid (decide (A.drop (k+1)=B.drop (k+1))=R):=by unfold Hid;rw[<- b];simp
      clear b;go_wp2_with (go_quiet (fail))
      go_wp2;go_roundw
      case rel=>exact⟨k+1,Bd,Lt,HG,⟨c.os,c.tape,c.output,c.size,c.block⟩,d3⟩
      case measure=>simp[intOf];omega
     have g:Hid (R=false):=by
      unfold Hid;have:decide ((G,I)=(q1,q2))=false:=by simpa using O
      rw[<- b,this];rfl
     clear b;by_cases z:q1=G
     ·subst z;have h5:(q2==I)=false:=by
       have:¬q2=I:=fun h=>O ⟨rfl,h.symm⟩;simpa using this
      clear O;go_wp2_with (go_quiet (fail))
      go_wp2;go_ret;exact⟨by rw[Ba g];rfl,⟨c.os,c.tape,c.output,c.size,c.block⟩⟩
     have h5:(q1==G)=false:=by simpa using z
     clear O z;go_wp2_with (go_quiet (fail))
     go_wp2;go_ret;exact⟨by rw[Ba g];rfl,⟨c.os,c.tape,c.output,c.size,c.block⟩⟩
    have g:Hid (R=true):=by unfold Hid;rw[<- Ba t,Bvi Bd,Bvi Bd];rfl
    have kb:¬(k:Int)<(A.length:Int):=Bd;clear t;go_wp2;go_ret;exact⟨by rw[Ba g];rfl,N⟩
  have g:Hid (R=false):=by
   unfold Hid;rw[<- b];simp only[Bxb];intro h;exact h2 (by rw[h])
  have c9:((A.length:Int) != (B.length:Int))=true:=Fm;clear b h2;go_in;go_wp2;go_ret;exact⟨by rw[Ba g];rfl,L⟩
 rw[Sp (by simpa using F)]at b;have g:=Bc b;clear b;by_cases z:j=C
 ·subst z;have h5:(l==D)=false:=by
   have:¬l=D:=fun h=>F ⟨rfl,h⟩;simpa using this
  clear F;go_in;go_wp2;go_ret;exact⟨by rw[<- Ba g];rfl,L⟩
 have h5:(j==C)=false:=by simpa using z
 clear F z;go_in;go_wp2;go_ret;exact⟨by rw[<- Ba g];rfl,L⟩
variable {ya:Option Addr}{yn yc:Nat}
def Bdj(c5 a1:TA)(c6 c7 a2:Nat)(b:List (Rd.Mth×Eh))(T:TI)(N a3 O:Nat)(m:PM)(x:Rd.Mth)(w:TW)(hm:m.is x w O)(hT:T.length<=1000)(f1:Dl w N T) (g9:b.length<=6)(f2:Eb w O (.s a1 b.length a2) b)(f8:x.params.length<=1000)(f3:∀p∈b,p.1.params.length<=1000):Calls prog 161 #[.agg #[.s c5 c6 c7,.s a1 b.length a2],.agg #[.s (.p N) T.length a3,.s ya yn yc],m.val] w fun e c=>e=.r (.bool (Mi T (b.map Prod.fst) x))/\Bl w c:=by
 generalize f:Mi T (b.map Prod.fst) x=R;unfold Mi at f;rw[<- hm.cl]at f;have c8:∀o,In T x o=((o.name==m.nm)&&(Tr.below T m.cl o.cl && !M7 o x)):=fun o=>by unfold In;rw[hm.cl,hm.nm]
 have c9:=fun h c (hb:Bl w c)=>Aq (ya:=ya) (yn:=yn) (yc:=yc) T N a3 m.cl h c hT (f1.below hb);have d0:=fun (o:PM) (y:Rd.Mth) c (hb:Bl w c) (ho:o.is y c O) hy=>Bf3 o m y x O c ho (hm.below hb) hy f8;have f4:∀c,Bl w c->Eb c O (.s a1 b.length a2) b:=fun c h=>f2.kp (Kp.of_below (e:=none) h) Ck Ck Ck Ck Ck;clear hm f2 f1;obtain⟨Q,nm,pa,pl,pc,r1,r2,lo,st,ca,cn,cc,ha,hl,hc,ma,ml,mc⟩:=m;simp only[PM.val]at f c8 c9 d0 ⊢;have f9:=Bc c8;have g0:=Bc c9;have g1:=Bc d0;have g2:=Bc f4;have g3:=Bc f3;have d1:=Is w (O1 c5 c6 c7 a1 b.length a2) (O2 (.p N) T.length a3 ya yn yc) (O18 Q nm pa pl pc r1 r2 lo st ca cn cc ha hl hc ma ml mc);have C0:=W8 w (O1 c5 c6 c7 a1 b.length a2) (O2 (.p N) T.length a3 ya yn yc) (O18 Q nm pa pl pc r1 r2 lo st ca cn cc ha hl hc ma ml mc);clear c8 c9 d0 f4 f3;by_cases I:Q=255;·subst I;rw[Sp rfl]at f;have HE:=Bc f;clear f;go_in;go_wp2;go_ret;exact⟨by rw[<- Ba HE];rfl,d1⟩
 rw[Pf I]at f;have h0:(Q==255)=false:=by simpa using I
 have J:Hid (((b.map Prod.fst).drop 0).any (In T x)=R):=f;clear f I;go_in;go_wp2
 go_loopw [15] (fun v wr=>∃k:Nat,k<=b.length/\v=.i (k:Int)/\Hid (((b.map Prod.fst).drop k).any (In T x)=R)/\Bl w wr/\wr.heap[w.heap.size+1]?=some (O2 (.p N) T.length a3 ya yn yc)/\wr.heap[w.heap.size+1+1]?=some (O18 Q nm pa pl pc r1 r2 lo st ca cn cc ha hl hc ma ml mc))
  (fun v _=>b.length-(intOf v).toNat)
 case atStart=>exact⟨0,Bd,rfl,J,d1,C0.2.1,C0.2.2⟩
 case round=>
  clear J d1 C0;obtain⟨k,hk,rfl,J,hB,V,Y⟩:=hrel;have g4:=hB.size;have lT:=Pk V;have lM:=Pk Y;obtain⟨l,q,t,z,A,B,C,D,F,G⟩:=N7 Y;simp at l q t z A B C D F G;obtain⟨t0,t1⟩:=cl2 V;simp at t0 t1;by_cases d2:k<b.length
  ·obtain⟨o,g,hg,h4,a5,a6⟩:=(Ba g2 _ hB).mth d2;replace a5:=Ub a5;have g5:=Ba g3 _ (Bvh d2);have hd:(b.map Prod.fst).drop k=b[k].1::(b.map Prod.fst).drop (k+1):=by
    rw[Wr (by simpa using d2)];simp
   have f:=Ba J;rw[hd,Byb,Ba f9,<- a6.cl,<- a6.nm]at f;generalize b[k].1=y at *;have d3:Bl wr (wr.alloc (O18 o.cl o.nm o.pa o.pl o.pc o.r1 o.r2 o.lo o.st o.ca o.cn o.cc o.ha o.hl o.hc o.ma o.ml o.mc)):=QN _;have f5:∀c,Bl wr c->o.is y c O:=fun c h=>a6.below h;have d4:=fun c (I:Bl w c) (h2:Bl wr c)=>Ba g1 o y c I (f5 c h2) g5;have d5:=fun c (I:Bl w c)=>Ba g0 o.cl c I;clear a6 f5;obtain⟨a4,Z,a7,a8,a9,b0,b1,b2,b3,b4,b5,b6,b7,b8,b9,c0,c1,c2⟩:=o;simp only at a5 f d4 d5 d3;obtain⟨y0,y1,y2,y3,y4,y5,y6,y7,y8,y9⟩:=a5;generalize M7 y x=SC at *;generalize Tr.below T Q a4=BL at *;have f6:=Bc d4;have d6:=Bc d5;have kb:(k:Int)<(b.length:Int):=Bd;have K:=hB.alloc g4 (O18 a4 Z a7 a8 a9 b0 b1 b2 b3 b4 b5 b6 b7 b8 b9 c0 c1 c2);have c3:=Bk Y (O18 a4 Z a7 a8 a9 b0 b1 b2 b3 b4 b5 b6 b7 b8 b9 c0 c1 c2);have d7:=Bk V (O18 a4 Z a7 a8 a9 b0 b1 b2 b3 b4 b5 b6 b7 b8 b9 c0 c1 c2);have f7:=Bf wr (O18 a4 Z a7 a8 a9 b0 b1 b2 b3 b4 b5 b6 b7 b8 b9 c0 c1 c2);clear hd J d4 d5;subst hg;by_cases h3:Z=nm
   ·subst h3;cases BL with
    | false =>
     have HG:Hid (((b.map Prod.fst).drop (k+1)).any (In T x)=R):=by unfold Hid;rw[<- f];simp
     clear f;go_wp2_with fail;refine Qb (Ba d6 _ K) K ?_;intro w2 j L;have a0:=stay j c3;have d8:=stay j d7;clear l q t z A B C D F G t0 t1 y0 y1 y2 y3 y4 y5 y6 y7 y8 y9 Y V;go_wp2;go_roundw
     case rel=>exact⟨k+1,Bd,Lt,HG,L,d8,a0⟩
     case measure=>simp[intOf];omega
    | true =>
     cases SC with
     | false =>
      have HE:Hid (R=true):=by unfold Hid;rw[<- f];simp
      clear f;go_wp2_with fail;refine Qb (Ba d6 _ K) K ?_;intro w2 j L;have d9:=QB d3 j;have a0:=stay j c3;have f0:=stay j f7;clear l q t z A B C D F G t0 t1 y0 y1 y2 y3 y4 y5 y6 y7 y8 y9 Y V;obtain⟨l,q,t,z,A,B,C,D,F,G⟩:=N7 a0;simp at l q t z A B C D F G;obtain⟨o0,o1,o2,o3,o4,o5,o6,o7,o8,o9⟩:=N7 f0;simp at o0 o1 o2 o3 o4 o5 o6 o7 o8 o9;go_wp2_with fail;refine Qm (Ba f6 _ L d9) ?_;intro w3 c4;go_wp2;go_ret;exact⟨by rw[Ba HE];rfl,QB L c4⟩
     | true =>
      have HG:Hid (((b.map Prod.fst).drop (k+1)).any (In T x)=R):=by unfold Hid;rw[<- f];simp
      clear f;go_wp2_with fail;refine Qb (Ba d6 _ K) K ?_;intro w2 j L;have d9:=QB d3 j;have a0:=stay j c3;have d8:=stay j d7;have f0:=stay j f7;clear l q t z A B C D F G t0 t1 y0 y1 y2 y3 y4 y5 y6 y7 y8 y9 Y V;obtain⟨l,q,t,z,A,B,C,D,F,G⟩:=N7 a0;simp at l q t z A B C D F G;obtain⟨o0,o1,o2,o3,o4,o5,o6,o7,o8,o9⟩:=N7 f0;simp at o0 o1 o2 o3 o4 o5 o6 o7 o8 o9;go_wp2_with fail;refine Qb (Ba f6 _ L d9) L ?_;intro w3 c4 g6;have g7:=stay c4 a0;have g8:=stay c4 d8;clear l q t z A B C D F G o0 o1 o2 o3 o4 o5 o6 o7 o8 o9;go_wp2;go_roundw
      case rel=>exact⟨k+1,Bd,Lt,HG,g6,g8,g7⟩
      case measure=>simp[intOf];omega
   have HG:Hid (((b.map Prod.fst).drop (k+1)).any (In T x)=R):=by unfold Hid;rw[<- f];simp[h3]
   have h5:(Z==nm)=false:=by simpa using h3
   clear f h3;go_wp2;go_roundw
   case rel=>exact⟨k+1,Bd,Lt,HG,K,d7,c3⟩
   case measure=>simp[intOf];omega
  have HE:Hid (R=false):=by unfold Hid;rw[<- Ba J,Bvi Fm];rfl
  have kb:¬(k:Int)<(b.length:Int):=Bd;clear J;go_wp2;go_ret;exact⟨by rw[Ba HE];rfl,hB⟩
def Bn0(c:TI):∀x∈Cd.insts c,0<=x.place:=by
 intro x b;unfold Cd.insts at b;simp only[List.mem_map]at b;obtain⟨p,_,rfl⟩:=b;exact Int.natCast_nonneg p
def Bj8(c:TI)(k p:Nat):(Cd.starts c k p).length<=k:=by
 induction k generalizing p with
 | zero=>simp[Cd.starts]
 | succ j ih =>
  unfold Cd.starts
  split
  ·simp;exact ih _
  simp
def Aj(c:TI):(Cd.insts c).length<=c.length:=by
 unfold Cd.insts Cd.places;rw[Bvr];exact Bj8 _ _ _
def Bk6(Z b0:TA)(b1 b2 tg tc:Nat)(ya:TA)(yn yc:Nat)(cl nm:Int)(pa:TA)(pl pc:Nat)(r1 r2 st:Int)(J K ma:TA)(N l mc:Nat)(T:TI) (bm:Nat)(q:List (Rd.Cls×Value))(t:List (Rd.Mth×Eh))(m:Rd.Mth)(B:List (Rd.Mp×Value×Value))(w:TW) (hT:T.length<=1000)(c8:Dl w tg T)(i1:t.length<=6)(h1:q.length<=6)(d6:∀p∈q,p.1.fields.length<=1000) (d7:Ex w bm (.s Z q.length b1) q)(d8:Eb w bm (.s b0 t.length b2) t)(c0:Uy m)(d3:B.map Prod.fst=m.maps) (d9:Du w bm (.s J m.code.length N) m.code)(f0:J5 w bm (.s K m.handlers.length l) m.handlers)(f1:Ob w bm (.s ma B.length mc) B):Calls prog 162 #[PBd.val ⟨Z,q.length,b1,b0,t.length,b2,tg,tc,ya,yn,yc,cl,nm,pa,pl,pc,r1,r2,m.locals,st,J,m.code.length,N,K,m.handlers.length,l,ma,B.length,mc,none,0,T,[]⟩] w fun e f => e=.r (.agg #[.i (Ot T (Cd.fieldSum (q.map Prod.fst):Int) (t.map fun p=>p.1.cl) m).1,.i 0,.i (Ot T (Cd.fieldSum (q.map Prod.fst):Int) (t.map fun p=>p.1.cl) m).2])/\Bl w f:=by
 have i2:B.length<=64:=by have:=congrArg List.length d3;simp only[Bvr]at this;rw[this];exact c0.mp
 have f2:∀p∈B,p.1.locals.length<=1000/\p.1.stack.length<=1000/\-1000<=p.1.place/\p.1.place<=1000:=by
  intro p hp;have:=c0.fr p.1 (by rw[<- d3];exact Bwa hp);omega
 have i3:=c0.code;have i4:=c0.hs;have c9:=fun f (h:Bl w f)=>Ap m.code J N bm f Bd c0.code0 (d9.kp (Kp.of_below (e:=none) h) Ck);generalize hL:Cd.insts m.code=L;have i5:L.length<=120:=by rw[<- hL];have:=Aj m.code;omega
 have f3:∀x∈L,0<=x.place:=by rw[<- hL];exact Bn0 _
 have hI:=fun c vc bb p op n f (h:Bl w f) (hi:Hs f bb (.s c L.length vc) L) =>
  Bn1 ⟨Z,q.length,b1,b0,t.length,b2,tg,tc,ya,yn,yc,cl,nm,pa,pl,pc,r1,r2,m.locals,st,J,m.code.length,N,K,m.handlers.length,l,ma,B.length,mc,c,vc,T,L⟩ bb bm q t p op n f ⟨hT,Ls,c8.below h,hi⟩ rfl rfl Bd h1 d6 (d7.kp (Kp.of_below (e:=none) h) Ck Ck) (d8.kp (Kp.of_below (e:=none) h) Ck Ck Ck Ck Ck)
 have hH:=fun c vc bb x f (h:Bl w f) (hi:Hs f bb (.s c L.length vc) L)=>Bk7 ⟨Z,q.length,b1,b0,t.length,b2,tg,tc,ya,yn,yc,cl,nm,pa,pl,pc,r1,r2,m.locals,st,J,m.code.length,N,K,m.handlers.length,l,ma,B.length,mc,c,vc,T,L⟩ bb x f ⟨hT,Ls,c8.below h,hi⟩;have hM:=fun c vc bb f (h:Bl w f) (hi:Hs f bb (.s c L.length vc) L) =>
  Bk5 ⟨Z,q.length,b1,b0,t.length,b2,tg,tc,ya,yn,yc,cl,nm,pa,pl,pc,r1,r2,m.locals,st,J,m.code.length,N,K,m.handlers.length,l,ma,B.length,mc,c,vc,T,L⟩ bb bm B f ⟨hT,Ls,c8.below h,hi⟩ rfl Bd f2 (f1.kp (Kp.of_below (e:=none) h) Ck Ck)
 have f4:∀f,Bl w f->J5 f bm (.s K m.handlers.length l) m.handlers:=fun f h=>f0.kp (Kp.of_below (e:=none) h) Ck;unfold Cd.readL Cd.readP Cd.readB at c9;unfold Ot;rw[hL]at c9 ⊢;rw[d3]at hM;simp only[PBd.val]at hI hH hM ⊢;generalize (Cd.fieldSum (q.map Prod.fst):Int)=nf at *;generalize (t.map fun p=>p.1.cl)=ow at *;have f5:∀x,Nj T nf ow m.locals L x = !Cd.argP T nf ow m.locals L x.op x.n:=fun x=>rfl;have f6:∀x,Pz T L (m.code.length:Int) x = !Cd.hndMay T L (m.code.length:Int) x:=fun x=>rfl;generalize f7:Kt (Nj T nf ow m.locals L) L=q1;generalize f8:Cd.firstIx (Pz T L (m.code.length:Int)) 0 m.handlers=G;generalize h2:Cd.faultOf (Cd.inMaps T L 0 0 m.maps)=q3 at *;have f9:Hid (Kt (Nj T nf ow m.locals L) (L.drop 0)=q1):=f7;have g0:Hid (Cd.firstIx (Pz T L (m.code.length:Int)) 0 (m.handlers.drop 0)=G):=f8;have HI:=Bc hI;have HH:=Bc hH;have HM:=Bc hM;have d0:=Bc c9;have h3:=Bc f4;have h4:=Bc f5;have h5:=Bc f6;have h6:=Bc f3;have c5:=Bx w (O16 Z q.length b1 b0 t.length b2 (.p tg) T.length tc ya yn yc cl nm pa pl pc r1 r2 m.locals st J m.code.length N K m.handlers.length l ma B.length mc none 0 0) (O8 0 0 0);have g1:=Cb w (O16 Z q.length b1 b0 t.length b2 (.p tg) T.length tc ya yn yc cl nm pa pl pc r1 r2 m.locals st J m.code.length N K m.handlers.length l ma B.length mc none 0 0) (O8 0 0 0);have d4:=Bv w (O16 Z q.length b1 b0 t.length b2 (.p tg) T.length tc ya yn yc cl nm pa pl pc r1 r2 m.locals st J m.code.length N K m.handlers.length l ma B.length mc none 0 0) (O8 0 0 0);clear f7 f8 h2 hI hH hM c9 f4 f5 f6 f3 c8 d7 d8 d9 f0 f1 f2 c0 d6 hL;by_cases hu:0<=Cd.unread m.code;·rw[Sp hu];have b6:=Ba d0 _ c5;rw[Sp hu,Sp hu,show decide (Cd.unread m.code<0)=false by simp;omega]at b6;generalize Cd.unread m.code=u at *;have d1:=Bc b6;clear b6 d0;go_in;go_wp2_with fail;refine(Ba d1).mono ?_;rintro e w1 ⟨c,vc,rfl,_,b7⟩;have D:=QB c5 b7;have I:=stay b7 d4;obtain⟨q0,q1,G⟩:=fr3 I;obtain⟨z0,z1,z2⟩:=cl3 I;simp at z0 z1 z2;go_wp2_with fail;refine tb (.agg #[.i 5,.i 0,.i u]) (by simp[results,Bzb,go_sem,z0,z1,z2]) ?_;exact⟨rfl,((D.setCell Fr _).setCell Fr _).setCell Fr _⟩
 rw[Pf hu];have b6:=Ba d0 _ c5;rw[Pf hu,Pf hu,show decide (Cd.unread m.code<0)=true by simp;omega]at b6;have d1:=Bc b6;clear b6 d0 hu;generalize hF:(if 0<=q1 then ((5:Int),q1) else if 0<=G then (6,G) else q3)=Fa
 have HF:=Bc hF;clear hF;go_in;go_wp2_with fail;refine(Ba d1).mono ?_;rintro e w1 ⟨c,vc,rfl,O,b7⟩;have D:=QB c5 b7;have I:=stay b7 d4;have Q:=stay b7 g1;have lB:=Pk Q;have h7:=Bj Q 14;obtain⟨a0,a1,a2,a3,a4,a5,a6,a7,a8,a9,g2,g3,g4,g5,g6⟩:=Wg Q;simp at a0 a1 a2 a3 a4 a5 a6 a7 a8 a9 g2 g3 g4 g5 g6;have b8:(w1.setCell (.a w.heap.size 14) (.s c L.length vc)).heap[w.heap.size]?=some (O16 Z q.length b1 b0 t.length b2 (.p tg) T.length tc ya yn yc cl nm pa pl pc r1 r2 m.locals st J m.code.length N K m.handlers.length l ma B.length mc c L.length vc):=by rw[Bq Q];rfl
 have C:(w1.setCell (.a w.heap.size 14) (.s c L.length vc)).heap[w.heap.size+1]?=some (O8 0 0 0):=by
  rw[Bvg _ _ _ _ Fr];exact I
 have V:=D.setCell (p:=.a w.heap.size 14) Fr (.s c L.length vc);have g7:Hs (w1.setCell (.a w.heap.size 14) (.s c L.length vc)) (w.heap.size+1+1) (.s c L.length vc) L :=
  Hs.kp (by simpa using O) (Kp.set (b:=w.heap.size+1+1) (i:=14) Q (.s c L.length vc)) Ck
 clear O d1 c5 g1 d4;have b4:=Bb b8 14;simp at b4;go_wp2
 go_loopw [27] (fun v wr=>∃k:Nat,k<=L.length/\v=.i (k:Int)/\Hid (Kt (Nj T nf ow m.locals L) (L.drop k)=q1)/\Bl w wr /\
   wr.heap[w.heap.size]?=some (O16 Z q.length b1 b0 t.length b2 (.p tg) T.length tc ya yn yc cl nm pa pl pc r1 r2 m.locals st J m.code.length N K m.handlers.length l ma B.length mc c L.length vc)/\wr.heap[w.heap.size+1]?=some (O8 0 0 0)/\Hs wr (w.heap.size+1+1) (.s c L.length vc) L)
  (fun v _=>L.length-(intOf v).toNat)
 case atStart=>exact⟨0,Bd,rfl,f9,V,b8,C,g7⟩
 case round=>
  clear f9 V b8 C g7 Q I D b7 b4 a0 a1 a2 a3 a4 a5 a6 a7 a8 a9 g2 g3 g4 g5 g6 h7;obtain⟨k,hk,rfl,HQ,Y,CB,CR,O⟩:=hrel;have c6:=Y.size;have lB:=Pk CB;have lR:=Pk CR;obtain⟨m0,m1,m2,m3,m4,m5,m6,m7,m8,m9,c1,c2,c3,c4,b4⟩:=Wg CB;simp at m0 m1 m2 m3 m4 m5 m6 m7 m8 m9 c1 c2 c3 c4 b4;by_cases F:k<L.length
  ·obtain⟨g,hg,h8,_,b3⟩:=Cf O Bd;obtain⟨e1,e2,e3,e4⟩:=W4 L k F;have y0:=(b3 (k*3) Bd).trans e1;have y1:=(b3 (k*3+1) Bd).trans e2;have y2:=(b3 (k*3+2) Bd).trans e3;have hd:L.drop k=L[k]::L.drop (k+1):=Wr F;have hq:=Ba HQ;rw[hd,Kt,Ba h4]at hq;have g8:=Ba h6 _ (Bvh F);generalize L[k]=x at *;obtain⟨xp,xo,xn⟩:=x;simp only at y0 y1 y2 hq g8;have D:=Y.alloc c6 (O15 xp xo xn);have c7:Bl wr (wr.alloc (O15 xp xo xn)):=QN _;have b9:=O.kp (Kp.of_below (e:=none) c7) Ck;have l:=Ba HI c vc _ xp xo xn _ D b9;generalize Cd.argP T nf ow m.locals L xo xn=A at *;have HC:=Bc l;have b5:=Bc hq;have g9:=Bf wr (O15 xp xo xn);have Q:=Bk CB (O15 xp xo xn);have I:=Bk CR (O15 xp xo xn);have kb:(k:Int)<(L.length:Int):=Bd;clear l hq hd b3 e1 e2 e3 e4 HQ c7;subst hg;cases A with
   | false =>
    have HE:Hid (Fa=(5,xp)):=by
     unfold Hid;have e:q1=xp:=by rw[<- Ba b5];simp
     rw[<- Ba HF,e,Sp g8]
    clear b5;go_wp2_with fail;refine Qb (Ba HC) D ?_;intro w2 z V;have C:=stay z I;have h9:=stay z g9;have x0:=Bb h9 0;obtain⟨q0,q1,G⟩:=fr3 C;obtain⟨z0,z1,z2⟩:=cl3 C;simp at z0 z1 z2 x0;go_wp2_with fail;refine tb (.agg #[.i 5,.i 0,.i xp]) (by simp[results,Bzb,go_sem,z0,z1,z2]) ?_;rw[Ba HE];exact⟨rfl,((V.setCell Fr _).setCell Fr _).setCell Fr _⟩
   | true =>
    have HG:Hid (Kt (Nj T nf ow m.locals L) (L.drop (k+1))=q1):=by unfold Hid;rw[<- Ba b5];simp
    clear b5;go_wp2_with fail;refine Qb (Ba HC) D ?_;intro w2 z V;have b8:=stay z Q;have C:=stay z I;have d5:=b9.kp (Kp.of_below (e:=none) z) Ck;clear z D Q I g9 Y CB CR m0 m1 m2 m3 m4 m5 m6 m7 m8 m9 c1 c2 c3 c4 b4 y0 y1 y2 b9 O;go_wp2;go_roundw
    case rel=>exact⟨k+1,Bd,Lt,HG,V,b8,C,d5⟩
    case measure=>simp[intOf];omega
  have h0:Hid ((if 0<=G then ((6:Int),G) else q3)=Fa):=by
   unfold Hid;have e:q1 = -1:=by rw[<- Ba HQ,Bvi Bd];rfl
   rw[<- Ba HF,e];exact(Pf Bd).symm
  have kb:¬(k:Int)<(L.length:Int):=Bd;clear HQ HF;go_wp2
  go_loopw [43] (fun v d2=>∃k:Nat,k<=m.handlers.length/\v=.i (k:Int)/\Hid (Cd.firstIx (Pz T L (m.code.length:Int)) k (m.handlers.drop k)=G)/\Bl w d2 /\
    d2.heap[w.heap.size]?=some (O16 Z q.length b1 b0 t.length b2 (.p tg) T.length tc ya yn yc cl nm pa pl pc r1 r2 m.locals st J m.code.length N K m.handlers.length l ma B.length mc c L.length vc)/\d2.heap[w.heap.size+1]?=some (O8 0 0 0)/\Hs d2 (w.heap.size+1+1) (.s c L.length vc) L)
   (fun v _=>m.handlers.length-(intOf v).toNat)
  case atStart=>exact⟨0,Bd,rfl,g0,Y,CB,CR,O⟩
  case round=>
   clear g0 Y CB CR O m0 m1 m2 m3 m4 m5 m6 m7 m8 m9 c1 c2 c3 c4 b4 kb hk F lB lR c6;obtain⟨j,hk,rfl,HQ,Y,CB,CR,O⟩:=hrel;have c6:=Y.size;have lB:=Pk CB;have lR:=Pk CR;obtain⟨m0,m1,m2,m3,m4,m5,m6,m7,m8,m9,c1,c2,c3,c4,b4⟩:=Wg CB;simp at m0 m1 m2 m3 m4 m5 m6 m7 m8 m9 c1 c2 c3 c4 b4;by_cases F:j<m.handlers.length
   ·obtain⟨g,hg,h8,_,b3⟩:=Cf (Ba h3 _ Y) Bd;have y0:=(b3 _ (De m.handlers j F 0 Bd).2).trans (De m.handlers j F 0 Bd).1;have y1:=(b3 _ (De m.handlers j F 1 Bd).2).trans (De m.handlers j F 1 Bd).1;have y2:=(b3 _ (De m.handlers j F 2 Bd).2).trans (De m.handlers j F 2 Bd).1;have y3:=(b3 _ (De m.handlers j F 3 Bd).2).trans (De m.handlers j F 3 Bd).1;have hd:m.handlers.drop j=m.handlers[j]::m.handlers.drop (j+1):=Wr F;have hq:=Ba HQ;rw[hd,Cd.firstIx,Ba h5]at hq;generalize m.handlers[j]=x at *;obtain⟨x1,x2,x3,x4⟩:=x;simp at y0 y1 y2 y3;have D:=Y.alloc c6 (O19 x1 x2 x3 x4);have c7:Bl wr (wr.alloc (O19 x1 x2 x3 x4)):=QN _;have b9:=O.kp (Kp.of_below (e:=none) c7) Ck;have l:=Ba HH c vc _ ⟨x1,x2,x3,x4⟩ _ D b9;simp only at l;generalize Cd.hndMay T L (m.code.length:Int) ⟨x1,x2,x3,x4⟩=A at *;have HC:=Bc l;have b5:=Bc hq;have Q:=Bk CB (O19 x1 x2 x3 x4);have I:=Bk CR (O19 x1 x2 x3 x4);have kb:(j:Int)<(m.handlers.length:Int):=Bd;clear l hq hd b3 HQ c7;subst hg;cases A with
    | false =>
     have HE:Hid (Fa=(6,(j:Int))):=by
      unfold Hid;have e:G=(j:Int):=by rw[<- Ba b5];simp
      rw[<- Ba h0,e,Sp Bd]
     clear b5;go_wp2_with fail;refine Qb (Ba HC) D ?_;intro w2 z V;have C:=stay z I;obtain⟨q0,q1,G⟩:=fr3 C;obtain⟨z0,z1,z2⟩:=cl3 C;simp at z0 z1 z2;go_wp2_with fail;refine tb (.agg #[.i 6,.i 0,.i (j:Int)]) (by simp[results,Bzb,go_sem,z0,z1,z2]) ?_;rw[Ba HE];exact⟨rfl,((V.setCell Fr _).setCell Fr _).setCell Fr _⟩
    | true =>
     have HG:Hid (Cd.firstIx (Pz T L (m.code.length:Int)) (j+1) (m.handlers.drop (j+1))=G):=by unfold Hid;rw[<- Ba b5];simp
     clear b5;go_wp2_with fail;refine Qb (Ba HC) D ?_;intro w2 z V;have b8:=stay z Q;have C:=stay z I;have d5:=b9.kp (Kp.of_below (e:=none) z) Ck;clear z D Q I Y CB CR m0 m1 m2 m3 m4 m5 m6 m7 m8 m9 c1 c2 c3 c4 b4 y0 y1 y2 y3 b9 O;go_wp2;go_roundw
     case rel=>exact⟨j+1,Bd,Lt,HG,V,b8,C,d5⟩
     case measure=>simp[intOf];omega
   have HE:Hid (q3=Fa):=by
    unfold Hid;have e:G = -1:=by rw[<- Ba HQ,Bvi Bd];rfl
    rw[<- Ba h0,e,Pf Bd]
   have kb:¬(j:Int)<(m.handlers.length:Int):=Bd;have hm:=Ba HM c vc _ _ Y O;have i0:=Bc hm;clear hm HQ;go_wp2_with fail;refine Qm (Ba i0) ?_;intro w2 z;have V:=Y.trans (z.mono c6);have C:=stay z CR;obtain⟨q0,q1,G⟩:=fr3 C;obtain⟨z0,z1,z2⟩:=cl3 C;simp at z0 z1 z2;go_wp2_with fail;refine tb (.agg #[.i q3.1,.i 0,.i q3.2]) (by simp[results,Bzb,go_sem,z0,z1,z2]) ?_;rw[Ba HE];exact⟨rfl,((V.setCell Fr _).setCell Fr _).setCell Fr _⟩
def Cm (n:Int):UInt8:=UInt8.ofNat (n % 256).toNat
def N8 (t:Int × Int):List UInt8:=[Cm t.1,Cm t.2]
def Fh (l:TP):List UInt8:=l.flatMap N8
def Nf (c:Rd.Cls):List UInt8:=Cm c.above::Cm (c.fields.length:Int)::Fh c.fields
def Sv (h:Rd.Hnd):List UInt8:=[Cm h.frm,Cm h.til,Cm h.target,Cm h.cl]
def Pw (l:List Rd.Hnd):List UInt8:=Cm (l.length:Int)::l.flatMap Sv
def Lk (m:Rd.Mp):List UInt8:=Cm m.place::(Fh m.locals++Cm (m.stack.length:Int)::Fh m.stack)
def Uw (l:List Rd.Mp):List UInt8:=Cm (l.length:Int)::l.flatMap Lk
def Bdk (m:Rd.Mth):List UInt8 :=
 [Cm m.cl,Cm m.name,Cm (m.params.length:Int)]++Fh m.params++N8 m.result++[Cm m.locals,Cm m.stack,Cm (m.code.length:Int)]++m.code.map Cm++Pw m.handlers
def Ks (m:Rd.Mth):List UInt8:=Bdk m++Uw m.maps
def Bbq (cs:List Rd.Cls)(n:Int):List UInt8:=[83,77,Cm (cs.length:Int)]++cs.flatMap Nf++[Cm n]
def Ux (f:Rd.Fil):List UInt8:=Bbq f.classes (f.methods.length:Int)++f.methods.flatMap Ks
def Tryz.infoU8:(prog.info? 5).map (fun i=>(i.zero,i.size,i.bytes))=some (some (.int .u8 0),1,1):=Le
def Ui (l:TB):List Value:=l.map fun b=>.int .u8 (b.toNat:Int)
def Brn(x:Int):((Cm x).toNat:Int)=x%256:=by
 unfold Cm;have b:=Int.emod_nonneg x (show (256:Int)≠0 by omega);have c:=Int.emod_lt_of_pos x (show (0:Int)<256 by omega);rw[UInt8.toNat_ofNat'];rw[Nat.mod_eq_of_lt Bd];omega
structure WG(n:Nat)(w w':World):Prop where
 bel:Below n w w'
 kp:∀(k:Nat) (cs:Array Value) (t:TypeId),w.heap[k]?=some (.cells cs t (0,0))->t≠5->t≠137->w'.heap[k]?=some (.cells cs t (0,0))
def WG.refl(n:Nat)(w:TW):WG n w w:=⟨Vm _ _,fun _ _ _ h _ _=>h⟩
def WG.trans{n:Nat}{a b c:TW}(h:WG n a b)(k:WG n b c):WG n a c:=⟨h.bel.trans k.bel,fun i e t j f g=>k.kp i e t (h.kp i e t j f g) f g⟩
def WG.alloc{n:Nat}{a b:TW}(h:WG n a b)(c:n<=b.heap.size)(o:Obj):WG n a (b.alloc o) :=
 ⟨h.bel.alloc c o,fun i e t f g j=>by
  have:=h.kp i e t f g j;rw[Bvu b o i (Pk this)];exact this⟩
def J7 (w:TW)(n B:Nat)(l:TB):Prop:=∃v,w.heap[B]?=some (.cells #[v] 137 (0,0))/\n<=B/\w.ownsRow n 5 1 v l.length (Ui l)
def J7.alloc{w:TW}{n s:Nat}{D:TB}(h:J7 w n s D)(o:Obj):J7 (w.alloc o) n s D:=by
 obtain⟨v,b,c,e⟩:=h;exact⟨v,by rw[Bvu w o s (Pk b)];exact b,c,e.alloc o⟩
def J7.lt{w:TW}{n s:Nat}{D:TB}(h:J7 w n s D):n<=s/\s<w.heap.size:=by
 obtain⟨v,b,c,_⟩:=h;exact⟨c,Pk b⟩
def WG.grown{n:Nat}{a b c:TW}{i:TX}{s:Nat}{e:TV}(h:WG n a b)(g:b.grownBy c i.ownBlock)(j:b.ownsRow n 5 1 i s e)(q:n<=b.heap.size):WG n a c :=
 ⟨h.bel.grown g q (fun k f=>(j.lt k f).1),fun k l t z p A=>Kp.of_grown (b:=0) g j k l t (Bv5 _) (h.kp k l t z p A) (by simpa using p)⟩
def WG.set{n s i:Nat}{a b:TW}{G:Array Value}(h:WG n a b)(f:b.heap[s]?=some (.cells G 137 (0,0)))(g:n<=s)(u:TX):WG n a (b.setCell (.a s i) u) :=
 ⟨h.bel.setCell (by simpa using g) u,fun k c t j l e=>Kp.set (b:=0) f u k c t (Bv5 _) (h.kp k c t j l e) (by simpa using e)⟩
def Lx{n s j K:Nat}{g:TypeId}{i:TX}{e:TV}{w b:TW}(h:w.ownsRow s g j i K e)(q:WG n w b)(z:g≠5)(A:g≠137):b.ownsRow s g j i K e:=by
 obtain⟨l,B|⟨f,C,p,a,c,d,r⟩⟩:=h
 ·exact⟨l,.inl B⟩
 exact⟨l,.inr ⟨f,C,p,a,c,q.kp f p g d z A,r⟩⟩
def Boz(l r:TB):Ui (l++r)=Ui l++Ui r:=by simp[Ui]
def Kf(l:TP):(Fh l).length=2*l.length:=by
 induction l with
 | nil=>rfl
 | cons x r ih=>simp[Fh,N8]at ih ⊢;omega
def Gg(n B:Nat)(l:TB)(x:Int)(w:TW)(hl:l.length<=100000)(G:J7 w n B l):Calls prog 71 #[.q B 0,.i x] w fun e p=>e=.r (.tuple #[])/\J7 p n B (l++[Cm x])/\WG n w p:=by
 obtain⟨v,h,t,m⟩:=G;obtain⟨I,J,K,L,N⟩:=Bv4 Tryz.infoU8;have z:=Bb h 0;have O:=Bj h 0;have Q:=Pk h;simp at z;obtain⟨V,vc,rfl⟩:=Bg m;go_in;go_wp2_with (at_builtin;refine Bvw _ rfl _ _ 120 rfl n 5 I _ 1 1 underlying120 J K L N rfl Ck _ _ _ rfl (m.alloc _) ⟨w.heap.size,0,none⟩ 1 1 [.int .u8 (x%256)] rfl rfl ?c1 ?c2 ?c3 ?c4 ?c5 ?_)
 case c1=>exact Dv _ _ _ _ rfl
 case c2=>intro u A;simp at A;subst A;rfl
 case c3=>unfold maxLen;omega
 case c4=>omega
 case c5=>simp;omega
 intro v' j C D _;obtain⟨c,f,rfl⟩:=Bg C;have Y:=Bk h (O20 (x%256));have F:=m.alloc (O20 (x%256));have Z:=((WG.refl n w).alloc Bd (O20 (x%256))).grown D F Fm;have g:j.heap[B]?=some (O21 V l.length vc):=Kp.of_grown (b:=0) D F B _ _ (Bv5 _) Y Ck;have c2:=Bb g 0;have f2:=Bj g 0;have a3:=Pk g;simp at c2;clear z O Q;have a0:(j.setCell (.a B 0) (.s c (l.length+1) f)).ownsRow n 5 1 (.s c (l.length+1) f) (l++[Cm x]).length (Ui (l++[Cm x])):=by
  have:j.ownsRow n 5 1 (.s c (l.length+1) f) (l++[Cm x]).length (Ui (l++[Cm x])):=by
   rw[Boz,Up];simpa[Ui,Brn] using C
  exact Cx this (Kp.set (b:=n) g (.s c (l.length+1) f)) Ck
 have a1:(j.setCell (.a B 0) (.s c (l.length+1) f)).heap[B]?=some (O21 c (l.length+1) f):=by rw[Bq g];rfl
 have a2:=Z.set (i:=0) g t (.s c (l.length+1) f);go_wp2;go_end0;exact⟨rfl,⟨_,a1,t,a0⟩,a2⟩
def Bc3(n B:Nat)(l:TB)(k x:Int)(w:TW)(z:l.length+2<=100000)(b:J7 w n B l):Calls prog 114 #[.q B 0,.agg #[.i k,.i x]] w fun e c=>e=.r (.tuple #[])/\J7 c n B (l++N8 (k,x))/\WG n w c:=by
 have h:=Bf w (O7 k x);have A:=b.lt;have j:=(WG.refl n w).alloc Bd (O7 k x);have m:=b.alloc (O7 k x);go_in
 (go_wp2_with fail);refine Qm (Gg n B l k _ Bd m) ?_;rintro C ⟨p,f⟩
 have g:=f.kp _ _ _ h Ck Ck;have s:=Bb g 1;have D:=Pk g;simp at s
 (go_wp2_with fail);refine Qm (Gg n B (l++[Cm k]) x _ Fm p) ?_;rintro F ⟨t,v⟩
 go_wp2;go_end0;exact⟨rfl,by simpa[N8] using t,(j.trans f).trans v⟩
def Bbt(n B b:Nat)(l:TB)(f:TP)(a:TA)(m c:Nat)(w:TW)(hl:l.length+2*f.length<=100000)(hW:J7 w n B l)(G:Dp w b (.s a m c) f):Calls prog 72 #[.q B 0,.s a m c] w fun e I=>e=.r (.tuple #[])/\J7 I n B (l++Fh f)/\WG n w I:=by
 obtain⟨xa,xc,J⟩:=Bg G;simp only[Value.slice.injEq]at J;obtain⟨rfl,a2,rfl⟩:=J;subst a2;go_in;go_wp2
 go_loopw [8] (fun v wr=>∃k:Nat,k<=f.length/\v=.i (k:Int)/\J7 wr n B (l++Fh (f.take k))/\WG n w wr)
  (fun v _=>f.length-(intOf v).toNat)
 case atStart=>exact⟨0,Bd,rfl,by simpa[Fh] using hW,WG.refl n w⟩
 case round=>
  obtain⟨k,hk,rfl,h,j⟩:=hrel;have a6:=h.lt;by_cases K:k<f.length
  ·obtain⟨g,hg,a7,a3,A⟩:=Cf (Lx G j Ck Ck) Bd;obtain⟨N,O,e3⟩:=Gc f k K;have C:=A (k*2) Bd;have D:=A (k*2+1) Bd;rw[N]at C;rw[O]at D;have Q:f.take (k+1)=f.take k++[f[k]]:=by rw[Bvs K]
   have V:(f.take k).length=k:=Fm;generalize f[k]=t at *;obtain⟨p,z⟩:=t;simp only at C D;have F:=Kf (f.take k);rw[V]at F;have HD:Hid (l++Fh (f.take (k+1))=l++Fh (f.take k)++N8 (p,z)):=by unfold Hid;rw[Q];simp[Fh]
   have a4:(l++Fh (f.take k)).length+2<=100000:=by rw[Up,F];omega
   generalize l++Fh (f.take k)=L at *;have Y:=h.alloc (O7 p z);have Z:=j.alloc Bd (O7 p z);clear A N O e3 Q a3 V F;subst hg;go_wp2_with fail;refine Qm (Bc3 n B L p z _ a4 Y) ?_;rintro w2 ⟨a0,a1⟩;have a5:=Z.trans a1;rw[<- Ba HD]at a0;clear C D a1 Z j Y h;go_wp2;go_roundw
   case rel=>exact⟨k+1,Bd,Lt,a0,a5⟩
   case measure=>simp[intOf];omega
  have e:f.take k=f:=Bv0 Bd;rw[e]at h;go_wp2;go_end0;exact⟨rfl,h,j⟩
def Se(l:List Rd.Hnd)(k:Nat)(b:k<l.length)(j:Nat)(c:j<4):(Et l)[k*4+j]?=[Value.int .i64 l[k].frm,.i l[k].til,.i l[k].target,.i l[k].cl][j]?/\k*4+j<(Et l).length:=by
 refine⟨M5 (fun x:Rd.Hnd=>[Value.int .i64 x.frm,.i x.til,.i x.target,.i x.cl]) 4 (fun _=>rfl) l k b j c,?_⟩;unfold Et;rw[Kq (fun x:Rd.Hnd=>[Value.int .i64 x.frm,.i x.til,.i x.target,.i x.cl]) 4 (fun _=>rfl) l];omega
def As(l:List Rd.Hnd):(l.flatMap Sv).length=4*l.length:=by
 induction l with
 | nil=>rfl
 | cons x r ih=>simp[Sv]at ih ⊢;omega
def Be7(n B b:Nat)(l:TB)(f:List Rd.Hnd)(a:TA)(m c:Nat)(w:TW)(Z:l.length+(Pw f).length<=100000)(hW:J7 w n B l)(hT:J5 w b (.s a m c) f):Calls prog 115 #[.q B 0,.s a m c] w fun e w'=>e=.r (.tuple #[])/\J7 w' n B (l++Pw f)/\WG n w w':=by
 obtain⟨xa,xc,a0⟩:=Bg hT;simp only[Value.slice.injEq]at a0;obtain⟨rfl,b1,rfl⟩:=a0;subst b1;unfold Pw at Z ⊢;rw[Bvo,As]at Z;generalize a1:Cm (f.length:Int)=C;have b2:=Bc a1;clear a1;go_in
 (go_wp2_with fail);refine Qm (Gg n B l (f.length:Int) _ Bd hW) ?_;rintro w1 ⟨z,a2⟩
 rw[Ba b2]at z;go_wp2
 go_loopw [12] (fun v wr=>∃k:Nat,k<=f.length/\v=.i (k:Int)/\J7 wr n B (l++[C]++(f.take k).flatMap Sv)/\WG n w wr)
  (fun v _=>f.length-(intOf v).toNat)
 case atStart=>exact⟨0,Bd,rfl,by simpa using z,a2⟩
 case round=>
  clear z a2;obtain⟨k,hk,rfl,D,I⟩:=hrel;have b5:=D.lt;by_cases h:k<f.length
  ·obtain⟨g,hg,b6,b3,F⟩:=Cf (Lx hT I Ck Ck) Bd;have x0:=(F _ (Se f k h 0 Bd).2).trans (Se f k h 0 Bd).1;have x1:=(F _ (Se f k h 1 Bd).2).trans (Se f k h 1 Bd).1;have x2:=(F _ (Se f k h 2 Bd).2).trans (Se f k h 2 Bd).1;have x3:=(F _ (Se f k h 3 Bd).2).trans (Se f k h 3 Bd).1;have hd:f.take (k+1)=f.take k++[f[k]]:=by rw[Bvs h]
   have N:=As (f.take k);have a3:(f.take k).length=k:=Fm;generalize f[k]=t at *;obtain⟨j,p,A,G⟩:=t;simp at x0 x1 x2 x3;rw[a3]at N;have HD:Hid (l++[C]++(f.take (k+1)).flatMap Sv=l++[C]++(f.take k).flatMap Sv++[Cm j]++[Cm p]++[Cm A]++[Cm G]):=by unfold Hid;rw[hd];simp[Sv]
   have b7:(l++[C]++(f.take k).flatMap Sv).length+4<=100000:=by rw[Up,Up,N];simp;omega
   generalize l++[C]++(f.take k).flatMap Sv=L at *;have z:=D.alloc (O19 j p A G);have C1:=Bf wr (O19 j p A G);have a4:=I.alloc Bd (O19 j p A G);clear F hd b3 a3 N;subst hg
   (go_wp2_with fail);refine Qm (Gg n B L j _ Bd z) ?_;rintro w2 ⟨a5,O⟩
   have J:=O.kp _ _ _ C1 Ck Ck;have y1:=Bb J 1;have l2:=Pk J;simp at y1
   (go_wp2_with fail);refine Qm (Gg n B (L++[Cm j]) p _ Fm a5) ?_;rintro w3 ⟨a6,Q⟩
   have K:=Q.kp _ _ _ J Ck Ck;have y2:=Bb K 2;have l3:=Pk K;simp at y2
   (go_wp2_with fail);refine Qm (Gg n B (L++[Cm j]++[Cm p]) A _ Fm a6) ?_;rintro w4 ⟨a7,V⟩
   have Y:=V.kp _ _ _ K Ck Ck;have y3:=Bb Y 3;have l4:=Pk Y;simp at y3
   (go_wp2_with fail);refine Qm (Gg n B (L++[Cm j]++[Cm p]++[Cm A]) G _ Fm a7) ?_;rintro w5 ⟨a8,a9⟩
   have b4:=(((a4.trans O).trans Q).trans V).trans a9;rw[<- Ba HD]at a8;clear x0 x1 x2 x3 y1 y2 y3 l2 l3 l4 C1 J K Y O Q V a9 a4 I z a5 a6 a7 D;go_wp2;go_roundw
   case rel=>exact⟨k+1,Bd,Lt,a8,b4⟩
   case measure=>simp[intOf];omega
  have e:f.take k=f:=Bv0 Bd;rw[e]at D;go_wp2;go_end0;exact⟨rfl,by simpa using D,I⟩
def Vl(l:List (Rd.Mp×Value×Value))(k:Nat)(b:k<l.length)(j:Nat)(c:j<3):(Mn l)[k*3+j]?=[Value.int .i64 l[k].1.place,l[k].2.1,l[k].2.2][j]?/\k*3+j<(Mn l).length:=by
 refine⟨M5 (fun x:Rd.Mp×Value×Value=>[Value.int .i64 x.1.place,x.2.1,x.2.2]) 3 (fun _=>rfl) l k b j c,?_⟩;unfold Mn;rw[Kq (fun x:Rd.Mp×Value×Value=>[Value.int .i64 x.1.place,x.2.1,x.2.2]) 3 (fun _=>rfl) l];omega
def Bls(l:List (Rd.Mp×Value×Value))(k:Nat)(b:k<l.length):(((l.take k).map Prod.fst).flatMap Lk).length+(Lk l[k].1).length<=((l.map Prod.fst).flatMap Lk).length:=by
 have h:(l.map Prod.fst).flatMap Lk=((l.take k).map Prod.fst).flatMap Lk++(Lk l[k].1++((l.drop (k+1)).map Prod.fst).flatMap Lk):=by
  rw[<- Bwj,<- Bwm,<- Wr b,<- Bwl,<- Bvx,Bxm]
 rw[h,Up,Up];omega
def Bcz(x:Rd.Mth):(Ks x).length=8+2*x.params.length+x.code.length+(Pw x.handlers).length+(Uw x.maps).length:=by
 simp[Ks,Bdk,N8,Kf];omega
def Zp{α:Type}(f:α->TB)(l:List α)(k:Nat)(b:k<l.length):((l.take k).flatMap f).length+(f l[k]).length<=(l.flatMap f).length:=by
 have h:l.flatMap f=(l.take k).flatMap f++(f l[k]++(l.drop (k+1)).flatMap f):=by
  rw[<- Bwj,<- Wr b,<- Bwl,Bxm]
 rw[h,Up,Up];omega
def Ex.wg{n s:Nat}{i:TX}{J:List (Rd.Cls×Value)}{w b:TW}(h:Ex w s i J)(c:WG n w b):Ex b s i J :=
 ⟨Lx h.1 c Ck Ck,fun p e=>Lx (h.2 p e) c Ck Ck⟩
end Go.Proofs.YtpcgnjolfahacaaGreat
