/- the proof's parts -/
import Derived.Test.YtpcgnjolfahacaaGreatPk00
set_option maxRecDepth 100000
set_option maxHeartbeats 40000000
set_option linter.unusedVariables false
set_option linter.unusedSimpArgs false
set_option linter.defProp false
namespace Go.Proofs.YtpcgnjolfahacaaGreat
open Go.RowKit Go.Proofs.Tryz
variable{listed:Array Bool}{ops:Array Oper}{u:Nat}{gd:Option (Nat × Bool)}{md:Region.Mode}{z:TI}{w:TW}
def Tryz.infoField:(prog.info? 235).map (fun i=>(i.zero,i.size,i.bytes))=some (some (.agg #[.i 0,.i 0,.i 0,.i 0]),4,32):=Le
structure Rf.Fld where
 owner:Int
 slot:Int
 t:Int × Int
def Nd (l:List Rf.Fld):List Value:=l.flatMap fun x=>[.int .i64 x.owner,.int .i64 x.slot,.int .i64 x.t.1,.int .i64 x.t.2]
def Bit(l:List Rf.Fld)(x:Rf.Fld):Nd (l++[x])=Nd l++[.i x.owner,.i x.slot,.i x.t.1,.i x.t.2]:=by simp[Nd]
def Rf.ownTo(c base:Int)(own:TP):Nat->List Rf.Fld
 | 0=>[]
 | k+1=>Rf.ownTo c base own k++[⟨c,base+(k:Int),own.getD k (0,0)⟩]
def Rf.ownOf(T:TI)(cs:List Rd.Cls)(c:Nat):List Rf.Fld :=
 Rf.ownTo (c:Int) (((Rf.all T cs c).length:Int)-(((cs.getD c ⟨0,[]⟩).fields.length:Nat):Int)) (cs.getD c ⟨0,[]⟩).fields (cs.getD c ⟨0,[]⟩).fields.length
def Rf.fieldsTo(T:TI)(cs:List Rd.Cls):Nat->List Rf.Fld
 | 0=>[]
 | j+1=>Rf.fieldsTo T cs j++Rf.ownOf T cs (7+j)
def Oz(c b:Int)(own:TP)(k:Nat):(Rf.ownTo c b own k).length=k:=by
 induction k with
 | zero=>rfl
 | succ j ih=>simp[Rf.ownTo,ih]
def Bhk(T:TI)(b:List Rd.Cls)(c:∀p∈b,p.fields.length<=1000)(j:Nat):(Rf.fieldsTo T b j).length<=1000*j:=by
 induction j with
 | zero=>simp[Rf.fieldsTo]
 | succ k ih =>
  rw[Rf.fieldsTo,Up,Rf.ownOf,Oz];have:(b.getD (7+k) ⟨0,[]⟩).fields.length<=1000:=by
   rw[Th];rcases h:b[7+k]? with _|x
   ·simp
   simp;exact c x (Bwv h)
  omega
def Uc(F B:TA)(c1 C c2 O:Nat)(l:List (Rd.Cls×Value))(w:TW)(hl:l.length<=13)(f5:7<=l.length)(Q:∀p∈l,p.1.fields.length<=1000)(V:Ir w O (.s F l.length c1) l):Calls prog 140 #[.agg #[.s F l.length c1,.s B C c2]] w fun e w' => ∃L vc,e=.r (.s L (Rf.fieldsTo (Cw l) (l.map Prod.fst) (l.length-7)).length vc)/\w'.ownsRow w.heap.size 235 4 (.s L (Rf.fieldsTo (Cw l) (l.map Prod.fst) (l.length-7)).length vc) (Rf.fieldsTo (Cw l) (l.map Prod.fst) (l.length-7)).length (Nd (Rf.fieldsTo (Cw l) (l.map Prod.fst) (l.length-7)))/\Bl w w':=by
 have a5:∀p∈l.map Prod.fst,p.fields.length<=1000:=by intro p hp;obtain⟨x,hx,rfl⟩:=List.mem_map.1 hp;exact Q x hx
 have b8:=fun j=>Bhk (Cw l) (l.map Prod.fst) a5 j;have b9:=fun (c:Nat) d=>Be5 (Cw l) (l.map Prod.fst) (c:Int) a5 d;obtain⟨i0,hi,c0,c6,c7⟩:=Bv4 Tryz.infoField;have a6:Below (w.heap.size+1) (w.alloc (O11 F l.length c1 B C c2)) (w.alloc (O11 F l.length c1 B C c2)):=Vm _ _;go_in;go_wp2
 go_loopw [3,4] (fun v i wr=>∃j:Nat,7+j<=l.length/\i=.i (7+(j:Int))/\wr.ownsRow (w.heap.size+1) 235 4 v (Rf.fieldsTo (Cw l) (l.map Prod.fst) j).length (Nd (Rf.fieldsTo (Cw l) (l.map Prod.fst) j)) /\
   Below (w.heap.size+1) (w.alloc (O11 F l.length c1 B C c2)) wr)
  (fun _ i _=>l.length-(intOf i).toNat)
 case atStart=>exact⟨0,Bd,rfl,Bvl _ _ _ _,a6⟩
 case round=>
  clear a6;obtain⟨j,hj,rfl,m,z⟩:=hrel;obtain⟨L,vc,rfl⟩:=Bg m;have c8:=z.size;simp at c8;have Y:Bl w wr:=(QN _).trans (z.mono Bd);have G:=(z.block w.heap.size Bd).trans (Bf w _);obtain⟨x0,x1⟩:=cl2 G;simp at x0 x1;by_cases I:7+j<l.length
  ·have N:=V.kp (Kp.of_below (e:=none) Y) Ck Ck;have c9:(7:Int)+(j:Int)<(l.length:Int):=Bd;obtain⟨g,hg,f6,_,a7⟩:=Cf N.1 Bd;obtain⟨e1,e2,e3⟩:=Ns l (7+j) I;have y1:=(a7 _ e3).trans e2;have A:=N.2 _ (Bvh I);have f7:=Q _ (Bvh I);obtain⟨ua,uc,J⟩:=Bg A;rw[J]at A y1;have f8:=b8 j;have a8:=b9 (7+j) (7+j+1);have a9:Rf.fieldsTo (Cw l) (l.map Prod.fst) (j+1)=Rf.fieldsTo (Cw l) (l.map Prod.fst) j++Rf.ownTo ((7+j:Nat):Int) (((Rf.all (Cw l) (l.map Prod.fst) (7+j)).length:Int)-((l[7+j].1.fields.length:Nat):Int)) l[7+j].1.fields l[7+j].1.fields.length:=by
    rw[Rf.fieldsTo,Rf.ownOf];have:(l.map Prod.fst).getD (7+j) ⟨0,[]⟩=l[7+j].1:=by simp[Th,I]
    rw[this]
   generalize d0:l[7+j].1.fields=f at *;generalize d1:Rf.fieldsTo (Cw l) (l.map Prod.fst) j=D at *;have it:((7:Int)+(j:Int)).toNat=7+j:=Bd;have f9:0<=(7:Int)+(j:Int):=Bd;have b0:=Bc N;have Z:=fun w1 d2=>Bgd F B c1 C c2 O l (7+j) w1 hl I Q d2;rw[show ((7+j:Nat):Int)=7+(j:Int) by omega]at Z;have g0:(Rf.all (Cw l) (l.map Prod.fst) (7+j)).length<=1000*(7+j+1):=a8;generalize d3:Rf.all (Cw l) (l.map Prod.fst) (7+j)=h at *;have HA:=Bc Z;have HS:=Bc a9;clear N a7 e1 e2 e3 J d0 d1 Z d3 a8 a9;subst hg;go_wp2_with fail;refine(Ba HA _ (Ba b0)).mono ?_;rintro e w1 ⟨la,lc,rfl,_,K⟩;have b1:=z.trans (K.mono Bd);have b2:=Cx m (Kp.of_below (e:=none) K) Ck;have b3:=A.kp (Kp.of_below (e:=none) K) Ck;have F1:=stay K G;clear K z m Y G x0 x1 b0 HA A y1;go_wp2
   rename World=>w1
   go_loopw [3,7] (fun v i wr=>∃k:Nat,k<=f.length/\i=.i (k:Int)/\wr.ownsRow (w.heap.size+1) 235 4 v (D++Rf.ownTo (7+(j:Int)) ((h.length:Int)-(f.length:Int)) f k).length (Nd (D++Rf.ownTo (7+(j:Int)) ((h.length:Int)-(f.length:Int)) f k)) /\
     Dp wr O (.s ua f.length uc) f/\wr.heap[w.heap.size]?=some (O11 (.p g) l.length c1 B C c2)/\Below (w.heap.size+1) (w.alloc (O11 (.p g) l.length c1 B C c2)) wr)
    (fun _ i _=>f.length-(intOf i).toNat)
   case atStart=>exact⟨0,Bd,rfl,by simpa[Rf.ownTo] using b2,b3,F1,b1⟩
   case round=>
    clear b2 b3 F1 b1;obtain⟨k,hk,rfl,m,A,G,z⟩:=hrel;obtain⟨g1,g3,rfl⟩:=Bg m;have d4:=z.size;simp at d4;have a0:(Rf.ownTo (7+(j:Int)) ((h.length:Int)-(f.length:Int)) f k).length=k:=Oz _ _ _ _;by_cases b4:k<f.length
    ·obtain⟨g2,d5,g4,_,a3⟩:=Cf A Bd;obtain⟨t1,t2,t3⟩:=Gc f k b4;have u0:=(a3 (k*2) Bd).trans t1;have u1:=(a3 (k*2+1) Bd).trans t2;have b5:Rf.ownTo (7+(j:Int)) ((h.length:Int)-(f.length:Int)) f (k+1)=Rf.ownTo (7+(j:Int)) ((h.length:Int)-(f.length:Int)) f k++[⟨7+(j:Int),(h.length:Int)-(f.length:Int)+(k:Int),(f[k].1,f[k].2)⟩]:=by
      rw[Rf.ownTo];simp[Th,b4]
     generalize d6:f[k].1=f1 at *;generalize d7:f[k].2=f2 at *;have d8:=Bc b5;have g5:(k:Int)<(f.length:Int):=Bd;have g6:(D++Rf.ownTo (7+(j:Int)) ((h.length:Int)-(f.length:Int)) f k).length<=20000:=by rw[Up,a0];omega
     generalize b6:D++Rf.ownTo (7+(j:Int)) ((h.length:Int)-(f.length:Int)) f k=xs at *;have d9:=Bc b6;clear b5 a3 t1 t2 t3 d6 d7 b6 a0;subst d5;go_wp2_with (at_builtin;refine Bvw _ rfl _ _ 230 rfl (w.heap.size+1) 235 i0 _ 4 32 underlying230 hi c0 c6 c7 rfl Ck _ _ _ rfl (m.alloc _) ⟨wr.heap.size,0,none⟩ 1 1 [.i (7+(j:Int)),.i ((h.length:Int)-(f.length:Int)+(k:Int)),.i f1,.i f2] rfl rfl ?c1 ?c2 ?c3 ?c4 ?c5 ?_)
     case c1=>exact Dv _ _ _ _ rfl
     case c2=>intro u J;simp at J;rcases J with rfl|rfl|rfl|rfl<;>rfl
     case c3=>unfold maxLen;omega
     case c4=>omega
     case c5=>simp;omega
     intro v' w2 b7 a4 _;have hK:=(Kp.alloc (e:=some 235) (b:=0) wr (O13 (7+(j:Int)) ((h.length:Int)-(f.length:Int)+(k:Int)) f1 f2)).trans (Kp.of_grown a4 (m.alloc _));have f0:=A.kp (e:=some 235) (fun q cs t hq V ht=>hK q cs t (Bv5 _) V ht) Ck;have F2:=hK _ _ _ (Bv5 _) G Ck;have f3:=(z.alloc Bd _).grown a4 Fm (fun j hj=>(m.lt j hj).1);have f4:w2.ownsRow (w.heap.size+1) 235 4 v' (D++Rf.ownTo (7+(j:Int)) ((h.length:Int)-(f.length:Int)) f (k+1)).length (Nd (D++Rf.ownTo (7+(j:Int)) ((h.length:Int)-(f.length:Int)) f (k+1))):=by
      rw[Ba d8,<- Bwe,Ba d9,Bit,Up];exact b7
     clear a4 m b7 z A G hK;go_wp2;go_roundw
     case rel=>exact⟨k+1,Bd,Lt,f4,f0,F2,f3⟩
     case measure=>simp[intOf];omega
    obtain rfl:k=f.length:=Bd;have HF:Hid (Rf.fieldsTo (Cw l) (l.map Prod.fst) (j+1)=D++Rf.ownTo (7+(j:Int)) ((h.length:Int)-(f.length:Int)) f f.length):=by
     unfold Hid;rw[Ba HS,show ((7+j:Nat):Int)=7+(j:Int) by omega]
    clear HS a0;go_wp2;go_roundw
    case rel=>exact⟨j+1,Bd,Lt,by rw[Ba HF];exact m,z⟩
    case measure=>simp[intOf];omega
  obtain rfl:j=l.length-7:=Bd;have c9:¬(7:Int)+((l.length-7:Nat):Int)<(l.length:Int):=Bd;go_wp2;go_ret;exact⟨L,vc,rfl,D8 m Bd,Y⟩
def M5{α:Type}(f:α->TV)(n:Nat)(b:∀x,(f x).length=n)(l:List α)(k:Nat)(c:k<l.length)(j:Nat)(e:j<n):(l.flatMap f)[k*n+j]?=(f l[k])[j]?:=by
 induction l generalizing k with
 | nil=>simp at c
 | cons x r ih =>
  rw[Bwj];cases k with
  | zero =>
   rw[Bvy (by rw[b];omega)];simp
  | succ i =>
   rw[Bvt (by rw[b,Bza];omega),b,show (i+1)*n+j-n=i*n+j by rw[Bza];omega];simpa using ih i (by simpa using c)
def Kq{α:Type}(f:α->TV)(n:Nat)(b:∀x,(f x).length=n)(l:List α):(l.flatMap f).length=l.length*n:=by
 induction l with
 | nil=>simp
 | cons x r ih=>rw[Bwj,Up,b,ih,Bvo,Bza];omega
def Bc5(l:List (Rf.Mth×Ms))(k:Nat)(b:k<l.length)(j:Nat)(c:j<12):(Rq l)[k*12+j]?=(Nr l[k].1 l[k].2)[j]?/\k*12+j<(Rq l).length:=by
 refine⟨M5 (fun x:Rf.Mth×Ms=>Nr x.1 x.2) 12 (fun _=>rfl) l k b j c,?_⟩;unfold Rq;rw[Kq (fun x:Rf.Mth×Ms=>Nr x.1 x.2) 12 (fun _=>rfl) l];omega
def Cd.argB(T:TI)(nf:Int)(ow:TI)(lo:Int)(c:TI)(op n:Int):Bool :=
 if op=2\/op=3 then decide (n<lo)
 else if 11<=op/\op<=14 then Cd.begB c n
 else if op=15\/op=16\/op=19 then Tr.hasB T n
 else if op=17\/op=18 then decide (n<nf)
 else if op=20 then decide (n<(ow.length:Int))&&(ow.getD n.toNat 0==255)
 else if op=21 then decide (n<(ow.length:Int))&&(ow.getD n.toNat 0 != 255)
 else true
structure RFl where
 a1:Option Addr
 c1:Nat
 a2:Option Addr
 c2:Nat
 bb:Nat
 l:List (Rd.Cls × Value)
 ms:List (Rf.Mth × Ms)
def RFl.val(f:RFl):Value:=.agg #[.slice f.a1 f.l.length f.c1,.slice f.a2 f.ms.length f.c2]
def RFl.ok(f:RFl)(w:TW):Prop:=f.l.length<=13/\7<=f.l.length/\f.ms.length<=6/\(∀p∈f.l,p.1.fields.length<=1000)/\Ir w f.bb (.slice f.a1 f.l.length f.c1) f.l/\Mf w f.bb (.slice f.a2 f.ms.length f.c2) f.ms
def RFl.ok.below{f:RFl}{b:TW}(h:f.ok w)(c:Bl w b):f.ok b :=
 ⟨h.1,h.2.1,h.2.2.1,h.2.2.2.1,h.2.2.2.2.1.kp (Kp.of_below (e:=none) c) Ck Ck,h.2.2.2.2.2.kp (Kp.of_below (e:=none) c) Ck Ck Ck Ck⟩
def RFl.T(f:RFl):List Int:=Cw f.l
def RFl.fields(f:RFl):List Rf.Fld:=Rf.fieldsTo (Cw f.l) (f.l.map Prod.fst) (f.l.length-7)
def RFl.owners(f:RFl):List Int:=f.ms.map fun x=>x.1.m.cl
def Bpy(f:RFl)(m:RMV)(p:Nat)(w:TW)(hf:f.ok w)(hp:p<m.code.size)(hs:m.code.size<=100000)(hr:p+Cd.wd ((Co m.code).getD p 0)<=m.code.size):Calls prog 95 #[f.val,m.val,.i (p:Int)] w fun e w' => e=.r (.bool (Cd.argB f.T (f.fields.length:Int) f.owners m.lo (Co m.code) ((Co m.code).getD p 0) (Rf.at' m.code.data.toList ((p:Int)+1))))/\Bl w w':=by
 have hN:2<=Cd.wd ((Co m.code).getD p 0)->0<=Rf.at' m.code.data.toList ((p:Int)+1):=by
  intro h;have:Rf.at' m.code.data.toList ((p+1:Nat):Int)=_:=Uv (s:=m.code) (i:=p+1) Bd;rw[show ((p:Int)+1)=((p+1:Nat):Int) by omega,this];omega
 rw[Sd _ _ hp]at hN hr ⊢;have a6:=fun w=>Yq m p w hp hs;have a7:=fun x w=>Ud m x w hs;have a0:=fun x w=>N4 f.T f.a1 f.a2 f.c1 f.ms.length f.c2 x w;have a3:=fun w (h:f.ok w)=>Uc f.a1 f.a2 f.c1 f.ms.length f.c2 f.bb f.l w h.1 h.2.1 h.2.2.2.1 h.2.2.2.2.1;have b2:f.T.length=f.l.length:=Kd _;rw[b2]at a0;have b3:=hf;obtain⟨F,G,I,J,K,l,j⟩:=f;obtain⟨cl,nm,pa,pl,pc,r1,r2,lo,st,g,ha,hl,hc,ma,ml,mc,d3,d4⟩:=m;simp only[RMV.val,RFl.val]at hp hs hN hr a6 a7 a0 a3 ⊢;have b4:(RFl.mk F G I J K l j).fields=Rf.fieldsTo (Cw l) (l.map Prod.fst) (l.length-7):=rfl;rw[<- b4]at a3;generalize (RFl.mk F G I J K l j).fields=b5 at *;generalize (RFl.mk F G I J K l j).T=T at *;generalize b9:Rf.at' g.data.toList ((p:Int)+1)=n at *;have b6:(RFl.mk F G I J K l j).owners.length=j.length:=by simp[RFl.owners]
 generalize A:(RFl.mk F G I J K l j).owners=ow at *;generalize t:Cd.argB T (b5.length:Int) ow lo (Co g) (g[p].toNat:Int) n=R;have d5:(p:Int)<(g.size:Int):=Bd;have d6:∀c:UInt8,IntKind.i64.wrap (c.toNat:Int)=(c.toNat:Int):=fun c=>Eg _ Bd (by have:=c.toNat_lt;omega);have c0:=Bc a6;have c3:=Bc a7;have c4:=Bc a0;have c5:=Bc a3;have a8:=Bc b3;have b7:Hid (2<=Cd.wd (g[p].toNat:Int)->0<=n):=hN;have b8:=Bc A;have a4:=Bc b6;clear b9 b4 a6 a7 a0 a3 b3 hf hN hr A b6 b2;go_in;go_wp2_with fail;refine Qm (Ba c0 _) ?_;intro w1 a5;have z:=(Bx w _ _).trans (a5.mono Fm);have CF:=stay a5 (Cb w _ _);have CM:=stay a5 (Bv w _ _);obtain⟨m0,m1,m2,m3,m4,m5,m6,m7,m8,m9,c6,c7⟩:=Ia CM;obtain⟨f0,f1⟩:=cl2 CF;simp at f0 f1 m0 m1 m2 m3 m4 m5 m6 m7 m8 m9 c6 c7;have lF:=Pk CF;have lM:=Pk CM;clear a5;by_cases b:(g[p].toNat:Int)=2\/(g[p].toNat:Int)=3
 ·rcases b with b|b
  all_goals
   have v:Hid (R=decide (n<lo)):=by unfold Hid;rw[<- t];unfold Cd.argB;rw[b];simp
   clear t;go_wp2;go_ret;exact⟨by rw[Ba v];rfl,z⟩
 have n2:((g[p].toNat:Int)==2)=false:=Fm;have n3:((g[p].toNat:Int)==3)=false:=Fm;have i2:=b;clear b;by_cases b:(g[p].toNat:Int)=11\/(g[p].toNat:Int)=12\/(g[p].toNat:Int)=13\/(g[p].toNat:Int)=14
 ·rcases b with b|b|b|b
  all_goals
   have v:Hid (R=Cd.begB (Co g) n):=by unfold Hid;rw[<- t];unfold Cd.argB;rw[b];simp
   clear t;go_wp2_with fail;refine Qm (Ba c3 n _) ?_;intro w2 L;go_wp2;go_ret;exact⟨by rw[Ba v];rfl,QB z L⟩
 have d7:((g[p].toNat:Int)==11)=false:=Fm;have d8:((g[p].toNat:Int)==12)=false:=Fm;have d9:((g[p].toNat:Int)==13)=false:=Fm;have f2:((g[p].toNat:Int)==14)=false:=Fm;have c8:=b;clear b;by_cases b:(g[p].toNat:Int)=15\/(g[p].toNat:Int)=16\/(g[p].toNat:Int)=19
 ·rcases b with b|b|b
  all_goals
   have v:Hid (R=Tr.hasB T n):=by unfold Hid;rw[<- t];unfold Cd.argB;rw[b];simp
   clear t;go_wp2_with fail;refine Qm (Ba c4 n _) ?_;intro w2 L;go_wp2;go_ret;exact⟨by rw[Ba v];rfl,QB z L⟩
 have f3:((g[p].toNat:Int)==15)=false:=Fm;have f4:((g[p].toNat:Int)==16)=false:=Fm;have f5:((g[p].toNat:Int)==19)=false:=Fm;have c9:=b;clear b;by_cases b:(g[p].toNat:Int)=17\/(g[p].toNat:Int)=18
 ·rcases b with b|b
  all_goals
   have v:Hid (R=decide (n<(b5.length:Int))):=by unfold Hid;rw[<- t];unfold Cd.argB;rw[b];simp
   clear t;go_wp2_with fail;refine(Ba c5 _ ((Ba a8).below z)).mono ?_;rintro e w2 ⟨va,vc,rfl,_,L⟩;go_wp2;go_ret;exact⟨by rw[Ba v];rfl,QB z L⟩
 have f6:((g[p].toNat:Int)==17)=false:=Fm;have f7:((g[p].toNat:Int)==18)=false:=Fm;have d0:=b;clear b;by_cases b:(g[p].toNat:Int)=20
 ·have a9:0<=n:=(Ba b7) (by rw[b];decide);by_cases N:n<(j.length:Int)
  ·obtain⟨q,hq⟩:=Bvk a9;subst hq;have O:q<j.length:=Bd;obtain⟨Q,V⟩:=Bc5 j q O 0 Bd;obtain⟨Y,Z,b0,_,B⟩:=Cf (Ba a8).2.2.2.2.2.1 Ls;simp only at Z B;have D:=(B _ V).trans Q;simp[Nr]at D;have A:ow.getD q 0=j[q].1.m.cl:=by rw[<- Ba b8];simp[RFl.owners,Th,O]
   have v:Hid (R=(j[q].1.m.cl==255)):=by unfold Hid;rw[<- t];unfold Cd.argB;rw[b];simp[N,Ba a4,-List.getD_eq_getElem?_getD];rw[A]
   generalize j[q].1.m.cl=b1 at *;have lq:Y<w.heap.size:=b0;clear t A Q V B;subst Z;have y1:w1.C Y (q*12) (.i b1):=QC z lq D;clear D;go_wp2;go_ret;exact⟨by rw[Ba v];rfl,z⟩
  have v:Hid (R=false):=by unfold Hid;rw[<- t];unfold Cd.argB;rw[b];simp[N,Ba a4]
  clear t;go_wp2;go_ret;exact⟨by rw[Ba v];rfl,z⟩
 have f8:((g[p].toNat:Int)==20)=false:=Fm;have d1:=b;clear b;by_cases b:(g[p].toNat:Int)=21
 ·have a9:0<=n:=(Ba b7) (by rw[b];decide);by_cases N:n<(j.length:Int)
  ·obtain⟨q,hq⟩:=Bvk a9;subst hq;have O:q<j.length:=Bd;obtain⟨Q,V⟩:=Bc5 j q O 0 Bd;obtain⟨Y,Z,b0,_,B⟩:=Cf (Ba a8).2.2.2.2.2.1 Ls;simp only at Z B;have D:=(B _ V).trans Q;simp[Nr]at D;have A:ow.getD q 0=j[q].1.m.cl:=by rw[<- Ba b8];simp[RFl.owners,Th,O]
   have v:Hid (R=(j[q].1.m.cl != 255)):=by unfold Hid;rw[<- t];unfold Cd.argB;rw[b];simp[N,Ba a4,-List.getD_eq_getElem?_getD];rw[A]
   generalize j[q].1.m.cl=b1 at *;have lq:Y<w.heap.size:=b0;clear t A Q V B;subst Z;have y1:w1.C Y (q*12) (.i b1):=QC z lq D;clear D;go_wp2;go_ret;exact⟨by rw[Ba v];rfl,z⟩
  have v:Hid (R=false):=by unfold Hid;rw[<- t];unfold Cd.argB;rw[b];simp[N,Ba a4]
  clear t;go_wp2;go_ret;exact⟨by rw[Ba v];rfl,z⟩
 have f9:((g[p].toNat:Int)==21)=false:=Fm;have d2:=b;clear b;have v:Hid (R=true):=by
  unfold Hid;rw[<- t];unfold Cd.argB;rw[Pf Bd,Pf Bd,Pf Bd,Pf Bd,Pf Bd,Pf Bd]
 clear t i2 c8 c9 d0 d1 d2;go_wp2;go_ret;exact⟨by rw[Ba v];rfl,z⟩
def Cd.nAt(c:TI)(p:Nat):Int:=if p+1<c.length then c.getD (p+1) 0 else -1
def Bt8(s:ByteArray)(p:Nat):Rf.at' s.data.toList ((p:Int)+1)=Cd.nAt (Co s) p:=by
 unfold Cd.nAt;rw[Jo];by_cases h:p+1<s.size;·rw[Sp h,Sd _ _ h];have:Rf.at' s.data.toList ((p+1:Nat):Int)=_:=Uv (s:=s) (i:=p+1) h;rw[show ((p:Int)+1)=((p+1:Nat):Int) by omega,this]
 rw[Pf h];exact Rf.at_out Fm
def Cd.argAt(T:TI)(nf:Int)(ow:TI)(lo:Int)(c:TI)(p:Nat):Bool:=Cd.argB T nf ow lo c (c.getD p 0) (Cd.nAt c p)
def Cd.badArg(T:TI)(nf:Int)(ow:TI)(lo:Int)(c:TI)(p:Nat):Bool:=!Cd.argAt T nf ow lo c p
def Cd.badCode(T:TI)(nf:Int)(ow:TI)(lo:Int)(c:TI):Int :=
 if 0<=Cd.unread c then Cd.unread c else Cd.first (Cd.badArg T nf ow lo c) (Cd.places c)
def Bet{f:Nat->Bool}{r:List Nat}(h:Cd.first f (u::r)<0):f u=false/\Cd.first f r<0:=by
 rw[Cd.first]at h
 by_cases b:f u=true;·rw[Sp b]at h;omega
 rw[Pf b]at h;exact⟨by simpa using b,h⟩
def Bgc(f:RFl)(m:RMV)(w:TW)(Q:f.ok w)(L:m.code.size<=100000):Calls prog 58 #[f.val,m.val] w fun e s => e=.r (.i (Cd.badCode f.T (f.fields.length:Int) f.owners m.lo (Co m.code)))/\Bl w s:=by
 unfold Cd.badCode;have V:=fun w=>Bhy m w L;have Y:=fun p w Z=>Uq m p w Z L;have hA:=fun p w (h:f.ok w) Z g=>Bpy f m p w h Z L g;have hl:=Jo m.code;generalize f.T=T at *;generalize (f.fields.length:Int)=t at *;generalize f.owners=z at *;have a0:∀p w,f.ok w->p<m.code.size->Cd.noRead (Co m.code) p=false->Calls prog 95 #[f.val,m.val,.i (p:Int)] w fun e s=>e=.r (.bool (Cd.argAt T t z m.lo (Co m.code) p))/\Bl w s:=by
  intro p w h1 h2 h3;unfold Cd.argAt;rw[<- Bt8];refine hA p w h1 h2 ?_;simp only[Cd.noRead,Bxo,Bxb]at h3;omega
 clear hA;have N:=Bx w (O11 f.a1 f.l.length f.c1 f.a2 f.ms.length f.c2) m.obj;have a3:=Cb w (O11 f.a1 f.l.length f.c1 f.a2 f.ms.length f.c2) m.obj;have a4:=Bv w (O11 f.a1 f.l.length f.c1 f.a2 f.ms.length f.c2) m.obj;have c6:=Bc Q;have q:Cd.unread (Co m.code)=Cd.first (Cd.noRead (Co m.code)) (Cd.starts (Co m.code) (Co m.code).length 0):=rfl
 unfold Cd.places;generalize hu:Cd.unread (Co m.code)=u at *;have a6:∀s,Bl w s->f.ok s:=fun s hb=>Q.below hb;clear Q;obtain⟨c7,c8,c9,d0,bb,l,ms⟩:=f;obtain⟨cl,nm,pa,pl,pc,r1,r2,B,st,b,ha,d1,hc,ma,ml,mc,d2,d3⟩:=m;simp only[RMV.val,RMV.obj,RFl.val]at L V Y a0 hl N a3 a4 q ⊢;have HU:=Bc V;have HN:=Bc Y;have HA:=Bc a0;have d4:=Bc a6;clear V Y a0 a6 hu c6;by_cases a7:0<=u;·rw[Sp a7];clear q;go_in;go_wp2_with fail;refine Qm (Ba HU _) ?_;intro w1 D;go_wp2;go_ret;exact⟨rfl,N.trans (D.mono Fm)⟩
 rw[Pf a7];generalize g:Cd.first (Cd.badArg T t z B (Co b)) (Cd.starts (Co b) (Co b).length 0)=r
 have C:=Bc g;have F:Hid (Cd.first (Cd.noRead (Co b)) (Cd.starts (Co b) (Co b).length 0)<0):=by unfold Hid;rw[<- q];omega
 clear g q;go_in;go_wp2_with fail;refine Qm (Ba HU _) ?_;intro w1 D;have a8:=N.trans (D.mono Fm);have a9:=stay D a3;have b0:=stay D a4;clear D N a3 a4 HU;go_wp2
 go_loopw [6] (fun v wr=>∃p k:Nat,v=.i (p:Int)/\(Co b).length<=p+k/\p<=200000/\Hid (Cd.first (Cd.badArg T t z B (Co b)) (Cd.starts (Co b) k p)=r)/\Hid (Cd.first (Cd.noRead (Co b)) (Cd.starts (Co b) k p)<0)/\Bl w wr /\
   wr.heap[w.heap.size]?=some (O11 c7 l.length c8 c9 ms.length d0) /\
   wr.heap[w.heap.size+1]?=some (O12 cl nm pa pl pc r1 r2 B st b ha d1 hc ma ml mc d2 d3))
  (fun v _=>b.size-(intOf v).toNat)
 case atStart=>exact⟨0,_,rfl,Bd,Bd,C,F,a8,a9,b0⟩
 case round=>
  clear a8 a9 b0 C F;obtain⟨p,k,rfl,hk,f4,C,F,G,CF,CM⟩:=hrel;obtain⟨m0,m1,m2,m3,m4,m5,m6,m7,m8,m9,b1,b2⟩:=Ia CM;simp at m0 m1 m2 m3 m4 m5 m6 m7 m8 m9 b1 b2;obtain⟨f0,f1⟩:=cl2 CF;simp at f0 f1;have b3:=G.size;by_cases b4:p<b.size
  ·obtain⟨j,rfl,hj,b5⟩:=Cd.starts_go (c:=Co b) (k:=k) (p:=p) Bd hk;have g:=Ba C;have q:=Ba F;rw[b5]at g q;obtain⟨b6,b7⟩:=Bet q;rw[Cd.first]at g
   have d5:(p:Int)<(b.size:Int):=Bd;have f5:=Cd.wd_bd ((Co b).getD p 0);have hn:=fun w=>Ba HN p w b4;have b8:=Ba HA p wr (Ba d4 _ G) b4 b6;have b9:Cd.badArg T t z B (Co b) p = !Cd.argAt T t z B (Co b) p:=rfl;rw[b9]at g;generalize Cd.wd ((Co b).getD p 0)=d at *;generalize Cd.argAt T t z B (Co b) p=A at *;have d6:=Bc hn;have c0:=Bc b8;have d7:=Bc b7;clear hn b8 b5 C F q b6 b7 b9;cases A with
   | false =>
    have J:Hid ((p:Int)=r):=by unfold Hid;rw[<- g];simp
    clear g;go_wp2_with fail;refine Qm (Ba c0) ?_;intro w2 I;have K:=G.trans (I.mono b3);go_wp2;go_ret;exact⟨by rw[<- Ba J];rfl,K⟩
   | true =>
    have J:Hid (Cd.first (Cd.badArg T t z B (Co b)) (Cd.starts (Co b) j (p+d))=r):=by unfold Hid;rw[<- g];simp
    clear g;go_wp2_with fail;refine Qm (Ba c0) ?_;intro w2 I;have K:=G.trans (I.mono b3);have c3:=stay I CF;have a5:=stay I CM;obtain⟨k0,k1,k2,k3,k4,k5,k6,k7,k8,k9,c4,c5⟩:=Ia a5;simp at k0 k1 k2 k3 k4 k5 k6 k7 k8 k9 c4 c5;have d8:=K.size;clear I G CF CM f0 f1 m0 m1 m2 m3 m4 m5 m6 m7 m8 m9 b1 b2;go_wp2_with fail;refine Qm (Ba d6 _) ?_;intro w3 O;have d9:=K.trans (O.mono d8);have f2:=stay O c3;have f3:=stay O a5;clear O K c3 a5 k0 k1 k2 k3 k4 k5 k6 k7 k8 k9 c4 c5;go_wp2;go_roundw
    case rel=>exact⟨p+d,j,rfl,hj,Bd,J,d7,d9,f2,f3⟩
    case measure=>simp[intOf];omega
  have g:=Ba C;rw[Cd.starts_end Bd]at g;have J:=Bc g;have d5:¬(p:Int)<(b.size:Int):=Bd;clear g C F;go_wp2;go_ret;exact⟨by rw[<- Ba J];rfl,G⟩
def Cd.hndBad(T:TI)(c:TI)(x:Rd.Hnd):Bool :=
 decide (x.til<=x.frm) || !Cd.begB c x.frm || !Cd.begB c x.target || (!Cd.begB c x.til&&(x.til != (c.length:Int))) || !Tr.hasB T x.cl || !Tr.rbel T x.cl 1
def Cd.firstIx{α:Type}(f:α->Bool):Nat->List α->Int
 | _,[]=>-1
 | k,x::r=>if f x=true then (k:Int) else Cd.firstIx f (k+1) r
def De(l:List Rd.Hnd)(k:Nat)(b:k<l.length)(j:Nat)(c:j<4):(Et l)[k*4+j]?=[Value.int .i64 l[k].frm,.i l[k].til,.i l[k].target,.i l[k].cl][j]?/\k*4+j<(Et l).length:=by
 refine⟨M5 (fun x:Rd.Hnd=>[Value.int .i64 x.frm,.i x.til,.i x.target,.i x.cl]) 4 (fun _=>rfl) l k b j c,?_⟩;unfold Et;rw[Kq (fun x:Rd.Hnd=>[Value.int .i64 x.frm,.i x.til,.i x.target,.i x.cl]) 4 (fun _=>rfl) l];omega
def Bb4(f:RFl)(m:RMV)(b:List Rd.Hnd)(w:TW)(hf:f.ok w)(d9:m.code.size<=100000)(f2:m.hl=b.length)(i0:b.length<=1000)(hh:Kz w f.bb (.s m.ha m.hl m.hc) b):Calls prog 59 #[f.val,m.val] w fun e w' => e=.r (.i (Cd.firstIx (Cd.hndBad f.T (Co m.code)) 0 b))/\Bl w w':=by
 have c5:=fun x w=>Ud m x w d9;have b2:=fun x w=>N4 f.T f.a1 f.a2 f.c1 f.ms.length f.c2 x w;have b3:=fun x y w (h:f.ok w)=>N5 f.a1 f.a2 f.c1 f.ms.length f.c2 f.bb f.l x y w (by have:=h.1;omega) h.2.2.2.2.1;have f3:f.T.length=f.l.length:=Kd _;rw[f3]at b2;have f4:Cw f.l=f.T:=rfl;rw[f4]at b3;have hl:=Jo m.code;have a8:=Bx w (O11 f.a1 f.l.length f.c1 f.a2 f.ms.length f.c2) m.obj;have a9:=Cb w (O11 f.a1 f.l.length f.c1 f.a2 f.ms.length f.c2) m.obj;have b0:=Bv w (O11 f.a1 f.l.length f.c1 f.a2 f.ms.length f.c2) m.obj;have f5:∀w',Bl w w'->f.ok w':=fun w' hb=>hf.below hb;have c6:∀w',Bl w w'->Kz w' f.bb (.s m.ha m.hl m.hc) b:=fun w' hb=>hh.kp (Kp.of_below (e:=none) hb) Ck;generalize f.T=T at *;generalize hr:Cd.firstIx (Cd.hndBad T (Co m.code)) 0 b=r;have HR:Hid (Cd.firstIx (Cd.hndBad T (Co m.code)) 0 (b.drop 0)=r):=hr;clear hr hf hh;obtain⟨g7,g8,g9,h0,bb,l,ms⟩:=f;obtain⟨cl,nm,pa,pl,pc,r1,r2,lo,st,p,ha,i1,hc,ma,ml,mc,h3,h4⟩:=m;simp only at f2;subst f2;simp only[RMV.val,RMV.obj,RFl.val]at d9 c5 b2 b3 hl a8 a9 b0 c6 HR ⊢;have c7:=Bc c5;have h5:=Bc b2;have h6:=Bc b3;have h7:=Bc f5;have f6:=Bc c6;clear c5 b2 b3 f5 c6 f3 f4;go_in;go_wp2
 go_loopw [5] (fun v wr=>∃k:Nat,k<=b.length/\v=.i (k:Int)/\Hid (Cd.firstIx (Cd.hndBad T (Co p)) k (b.drop k)=r)/\Bl w wr /\
   wr.heap[w.heap.size]?=some (O11 g7 l.length g8 g9 ms.length h0) /\
   wr.heap[w.heap.size+1]?=some (O12 cl nm pa pl pc r1 r2 lo st p ha b.length hc ma ml mc h3 h4))
  (fun v _=>b.length-(intOf v).toNat)
 case atStart=>exact⟨0,Bd,rfl,HR,a8,a9,b0⟩
 case round=>
  clear a8 a9 b0 HR;obtain⟨k,hk,rfl,HR,hB,CF,CM⟩:=hrel;obtain⟨q,t,z,F,G,I,J,L,N,O,Q,V⟩:=Ia CM;simp at q t z F G I J L N O Q V;obtain⟨Y,Z⟩:=cl2 CF;simp at Y Z;have h8:=hB.size;have lF:=Pk CF;have lM:=Pk CM;by_cases a6:k<b.length
  ·obtain⟨g,hg,i2,_,b1⟩:=Cf (Ba f6 _ hB) Bd;have y0:=(b1 _ (De b k a6 0 Bd).2).trans (De b k a6 0 Bd).1;have y1:=(b1 _ (De b k a6 1 Bd).2).trans (De b k a6 1 Bd).1;have y2:=(b1 _ (De b k a6 2 Bd).2).trans (De b k a6 2 Bd).1;have y3:=(b1 _ (De b k a6 3 Bd).2).trans (De b k a6 3 Bd).1;have hd:b.drop k=b[k]::b.drop (k+1):=Wr a6;have hr:=Ba HR;rw[hd,Cd.firstIx]at hr;generalize b[k]=x at *;obtain⟨a0,a3,a7,a4⟩:=x;simp at y0 y1 y2 y3;have f7:Cd.hndBad T (Co p) ⟨a0,a3,a7,a4⟩=(decide (a3<=a0) || !Cd.begB (Co p) a0 || !Cd.begB (Co p) a7||(!Cd.begB (Co p) a3&&(a3 != (p.size:Int))) || !Tr.hasB T a4 || !Tr.rbel T a4 1):=by
    unfold Cd.hndBad;rw[hl]
   rw[f7]at hr;have f8:=fun w=>Ba c7 a0 w;have f9:=fun w=>Ba c7 a3 w;have g0:=fun w=>Ba c7 a7 w;have g1:=fun w=>Ba h5 a4 w;have g2:=fun w h=>Ba h6 a4 1 w h;generalize Cd.begB (Co p) a0=A at *;generalize Cd.begB (Co p) a3=B at *;generalize Cd.begB (Co p) a7=C at *;generalize Tr.hasB T a4=K at *;generalize Tr.rbel T a4 1=D at *;have HA:=Bc f8;have HB:=Bc f9;have HC:=Bc g0;have HK:=Bc g1;have HD:=Bc g2;have j:=Bc hr;have h9:(k:Int)<(b.length:Int):=Bd;clear f8 f9 g0 g1 g2 hr f7 hd b1 HR f6;subst hg;have CX:=Bf wr (O14 a0 a3 a7 a4);have a8:=hB.alloc h8 (O14 a0 a3 a7 a4);have a9:=Bk CF (O14 a0 a3 a7 a4);have b0:=Bk CM (O14 a0 a3 a7 a4);have lx:wr.heap.size<(wr.alloc (O14 a0 a3 a7 a4)).heap.size:=Fr;go_wp2_with fail;refine Qb (Ba HA _) a8 ?_;intro w1 b4 g3;have c8:=stay b4 a9;have c9:=stay b4 b0;have b5:=stay b4 CX;clear q t z F G I J L N O Q V Y Z y0 y1 y2 y3 b4 CF CM hB;obtain⟨q,t,z,F,G,I,J,L,N,O,Q,V⟩:=Ia c9;simp at q t z F G I J L N O Q V;obtain⟨Y,Z⟩:=cl2 c8;obtain⟨y0,y1,y2,y3⟩:=cl4 b5;simp at Y Z y0 y1 y2 y3;have i3:=Pk b5;go_wp2_with fail;refine Qb (Ba HB _) g3 ?_;intro w2 b6 g4;have d0:=stay b6 c8;have d1:=stay b6 c9;have b7:=stay b6 b5;clear q t z F G I J L N O Q V Y Z y0 y1 y2 y3 b6 c8 c9 b5 g3;obtain⟨q,t,z,F,G,I,J,L,N,O,Q,V⟩:=Ia d1;simp at q t z F G I J L N O Q V;obtain⟨Y,Z⟩:=cl2 d0;obtain⟨y0,y1,y2,y3⟩:=cl4 b7;simp at Y Z y0 y1 y2 y3;have i4:=Pk b7;go_wp2_with fail;refine Qb (Ba HC _) g4 ?_;intro w3 b8 g5;have d2:=stay b8 d0;have d3:=stay b8 d1;have b9:=stay b8 b7;clear q t z F G I J L N O Q V Y Z y0 y1 y2 y3 b8 d0 d1 b7 g4;obtain⟨q,t,z,F,G,I,J,L,N,O,Q,V⟩:=Ia d3;simp at q t z F G I J L N O Q V;obtain⟨Y,Z⟩:=cl2 d2;obtain⟨y0,y1,y2,y3⟩:=cl4 b9;simp at Y Z y0 y1 y2 y3;have i5:=Pk b9;go_wp2_with fail;refine Qb (Ba HK _) g5 ?_;intro w4 c0 d4;have d5:=stay c0 d2;have d6:=stay c0 d3;have c3:=stay c0 b9;clear q t z F G I J L N O Q V Y Z y0 y1 y2 y3 c0 d2 d3 b9 g5;obtain⟨q,t,z,F,G,I,J,L,N,O,Q,V⟩:=Ia d6;simp at q t z F G I J L N O Q V;obtain⟨Y,Z⟩:=cl2 d5;obtain⟨y0,y1,y2,y3⟩:=cl4 c3;simp at Y Z y0 y1 y2 y3;have i6:=Pk c3;go_wp2_with fail;refine Qb (Ba HD _ (Ba h7 _ d4)) d4 ?_;intro w5 c4 a5;have d7:=stay c4 d5;have d8:=stay c4 d6;have g6:=stay c4 c3;clear q t z F G I J L N O Q V Y Z y0 y1 y2 y3 c4 d5 d6 c3 d4;obtain⟨q,t,z,F,G,I,J,L,N,O,Q,V⟩:=Ia d8;simp at q t z F G I J L N O Q V;obtain⟨Y,Z⟩:=cl2 d7;obtain⟨y0,y1,y2,y3⟩:=cl4 g6;simp at Y Z y0 y1 y2 y3;have i7:=Pk g6;by_cases h1:a3<=a0
   ·have c:Hid ((k:Int)=r):=by unfold Hid;rw[<- Ba j];simp[h1]
    clear j;go_wp2;go_ret;exact⟨by rw[<- Ba c];rfl,a5⟩
   cases A with
   | false =>
    have c:Hid ((k:Int)=r):=by unfold Hid;rw[<- Ba j];simp
    clear j;go_wp2;go_ret;exact⟨by rw[<- Ba c];rfl,a5⟩
   | true =>
    cases C with
    | false =>
     have c:Hid ((k:Int)=r):=by unfold Hid;rw[<- Ba j];simp
     clear j;go_wp2;go_ret;exact⟨by rw[<- Ba c];rfl,a5⟩
    | true =>
     cases B with
     | true =>
      cases K with
      | false =>
       have c:Hid ((k:Int)=r):=by unfold Hid;rw[<- Ba j];simp[h1]
       clear j;go_wp2;go_ret;exact⟨by rw[<- Ba c];rfl,a5⟩
      | true =>
       cases D with
       | false =>
        have c:Hid ((k:Int)=r):=by unfold Hid;rw[<- Ba j];simp[h1]
        clear j;go_wp2;go_ret;exact⟨by rw[<- Ba c];rfl,a5⟩
       | true =>
        have c:Hid (Cd.firstIx (Cd.hndBad T (Co p)) (k+1) (b.drop (k+1))=r):=by unfold Hid;rw[<- Ba j];simp[h1]
        clear j;go_wp2;go_roundw
        case rel=>exact⟨k+1,Bd,Lt,c,a5,d7,d8⟩
        case measure=>simp[intOf];omega
     | false =>
      by_cases h2:a3=(p.size:Int)
      ·cases K with
       | false =>
        have c:Hid ((k:Int)=r):=by unfold Hid;rw[<- Ba j];simp[h2,show ¬((p.size:Int)<=a0) from by omega]
        clear j;go_wp2;go_ret;exact⟨by rw[<- Ba c];rfl,a5⟩
       | true =>
        cases D with
        | false =>
         have c:Hid ((k:Int)=r):=by unfold Hid;rw[<- Ba j];simp[h2,show ¬((p.size:Int)<=a0) from by omega]
         clear j;go_wp2;go_ret;exact⟨by rw[<- Ba c];rfl,a5⟩
        | true =>
         have c:Hid (Cd.firstIx (Cd.hndBad T (Co p)) (k+1) (b.drop (k+1))=r):=by unfold Hid;rw[<- Ba j];simp[h2,show ¬((p.size:Int)<=a0) from by omega]
         clear j;go_wp2;go_roundw
         case rel=>exact⟨k+1,Bd,Lt,c,a5,d7,d8⟩
         case measure=>simp[intOf];omega
      have c:Hid ((k:Int)=r):=by unfold Hid;rw[<- Ba j];simp[h2]
      clear j;go_wp2;go_ret;exact⟨by rw[<- Ba c];rfl,a5⟩
  have hf:r = -1:=by rw[<- Ba HR,Bvi Bd];rfl
  have c:=Bc hf;have h9:¬(k:Int)<(b.length:Int):=Bd;clear hf HR;go_wp2;go_ret;exact⟨by rw[Ba c];rfl,hB⟩
def Bdx{k s q:Nat}(h:q∈Cd.starts z k s):q<z.length:=by
 induction k generalizing s with
 | zero=>simp[Cd.starts]at h
 | succ j ih =>
  unfold Cd.starts at h;by_cases b:s<z.length
  ·rw[Sp b]at h;rcases List.mem_cons.1 h with rfl|h
   ·exact b
   exact ih h
  rw[Pf b]at h;simp at h
def Pu{c:TI}{n:Int}(h:Cd.begB c n=true):0<=n/\n<(c.length:Int):=by
 unfold Cd.begB Cd.places at h;rw[By6]at h;obtain⟨p,b,e⟩:=h;have:=Bdx b;simp at e;omega
def Cd.framed(T c:TI)(k n:Int):Bool :=
 if k=0\/k=1\/k=2 then n==0 else if k=3 then Tr.hasB T n else if k=4 then Cd.begB c n&&(c.getD n.toNat 0==15) else false
def Bhz(f:RFl)(m:RMV)(k n:Int)(w:TW)(G:m.code.size<=100000):Calls prog 97 #[f.val,m.val,.agg #[.i k,.i n]] w fun e N => e=.r (.bool (Cd.framed f.T (Co m.code) k n))/\Bl w N:=by
 have B:=fun w=>Ud m n w G;have z:=fun w=>N4 f.T f.a1 f.a2 f.c1 f.ms.length f.c2 n w;have I:f.T.length=f.l.length:=Kd _;rw[I]at z;have q:=fun h=>Pu (c:=Co m.code) (n:=n) h;have C:=fun p D=>Sd m.code p D;rw[Jo]at q;generalize f.T=T at *;generalize g:Cd.framed T (Co m.code) k n=R;unfold Cd.framed at g;obtain⟨a0,a3,a4,a5,bb,l,ms⟩:=f;obtain⟨cl,nm,pa,pl,pc,r1,r2,lo,st,F,ha,a6,hc,ma,ml,mc,a7,a8⟩:=m;simp only[RMV.val,RFl.val]at G B z q C g ⊢;generalize Cd.begB (Co F) n=b at *;have J:=Bc B;have O:=Bc z;have Q:=Bc C;clear B z I C;by_cases s:k=0\/k=1\/k=2
 ·rw[Sp s]at g;have j:=Bc g;clear g q;rcases s with rfl|rfl|rfl
  all_goals
   go_in;go_wp2;go_ret;exact⟨by rw[<- Ba j];rfl,Is _ _ _ _⟩
 rw[Pf s]at g;by_cases v:k=3;·rw[Sp v]at g;subst v;have j:=Bc g;clear g q s;go_in;go_wp2_with fail;refine Qm (Ba O _) ?_;intro K t;go_wp2;go_ret;exact⟨by rw[<- Ba j];rfl,(Is _ _ _ _).trans (t.mono Fm)⟩
 rw[Pf v]at g;by_cases A:k=4
 ·rw[Sp A]at g;subst A;cases b with
  | false =>
   have j:=Bc g;clear g q s v;go_in;go_wp2_with fail;refine Qm (Ba J _) ?_;intro K t;go_wp2;go_ret;exact⟨by rw[<- Ba j];rfl,(Is _ _ _ _).trans (t.mono Fm)⟩
  | true =>
   obtain⟨L,V⟩:=q rfl;obtain⟨p,D⟩:=Bvk L;subst D;have Y:p<F.size:=Bd;have a9:(p:Int)<(F.size:Int):=Bd;rw[Bvn,Ba Q p Y]at g;have j:=Bc g;clear g q s v L V;go_in;go_wp2_with fail;refine Qm (Ba J _) ?_;intro K t;have Z:=stay t (W8 w _ _ _).2.1;have CT:=stay t (W8 w _ _ _).2.2;have m7:=Bb Z 7;have t1:=Bb CT 1;simp at m7 t1;go_wp2;go_ret;exact⟨by rw[<- Ba j];rfl,(Is _ _ _ _).trans (t.mono Fm)⟩
 rw[Pf A]at g;have j:=Bc g;have n0:(k==0)=false:=Fm;have n1:(k==1)=false:=Fm;have n2:(k==2)=false:=Fm;have n3:(k==3)=false:=Fm;have n4:(k==4)=false:=Fm;clear g q s v A;go_in;go_wp2;go_ret;exact⟨by rw[<- Ba j];rfl,Is _ _ _ _⟩
def Cd.frAll(T c:TI)(l:TP):Bool:=l.all fun t=>Cd.framed T c t.1 t.2
def Cd.mapsBad(T c:TI):Nat->Int->List Rd.Mp->Int
 | _,_,[]=>-1
 | i,last,x::r=>if Cd.begB c x.place=false then (i:Int) else if x.place<=last then (i:Int) else if Cd.frAll T c x.locals=false then (i:Int) else if Cd.frAll T c x.stack=false then (i:Int) else Cd.mapsBad T c (i+1) x.place r
def Ge(l:List (Rd.Mp×Value×Value))(k:Nat)(b:k<l.length)(j:Nat)(c:j<3):(Mn l)[k*3+j]?=[Value.int .i64 l[k].1.place,l[k].2.1,l[k].2.2][j]?/\k*3+j<(Mn l).length:=by
 refine⟨M5 (fun x:Rd.Mp×Value×Value=>[Value.int .i64 x.1.place,x.2.1,x.2.2]) 3 (fun _=>rfl) l k b j c,?_⟩;unfold Mn;rw[Kq (fun x:Rd.Mp×Value×Value=>[Value.int .i64 x.1.place,x.2.1,x.2.2]) 3 (fun _=>rfl) l];omega
def Bh3(f:RFl)(m:RMV)(h:List (Rd.Mp×Value×Value))(w:TW)(f6:m.code.size<=100000)(h0:m.ml=h.length)(i5:h.length<=1000)(h1:∀p∈h,p.1.locals.length<=1000/\p.1.stack.length<=1000)(hh:Oi w f.bb (.s m.ma m.ml m.mc) h):Calls prog 60 #[f.val,m.val] w fun e b => e=.r (.i (Cd.mapsBad f.T (Co m.code) 0 (-1) (h.map Prod.fst)))/\Bl w b:=by
 have f7:=fun x w=>Ud m x w f6;have f8:=fun k n w=>Bhz f m k n w f6;have f9:=Bx w (O11 f.a1 f.l.length f.c1 f.a2 f.ms.length f.c2) m.obj;have b7:=Cb w (O11 f.a1 f.l.length f.c1 f.a2 f.ms.length f.c2) m.obj;have b8:=Bv w (O11 f.a1 f.l.length f.c1 f.a2 f.ms.length f.c2) m.obj;have g0:∀b,Bl w b->Oi b f.bb (.s m.ma m.ml m.mc) h:=fun b hb=>hh.kp (Kp.of_below (e:=none) hb) Ck Ck;generalize f.T=T at *;generalize hr:Cd.mapsBad T (Co m.code) 0 (-1) (h.map Prod.fst)=r;have HR:Hid (Cd.mapsBad T (Co m.code) 0 (-1) ((h.map Prod.fst).drop 0)=r):=hr;clear hr hh;obtain⟨c3,c4,c5,c6,bb,l,ms⟩:=f;obtain⟨cl,nm,pa,pl,pc,r1,r2,lo,st,D,ha,c7,hc,ma,ml,mc,c8,c9⟩:=m;simp only at h0;subst h0;simp only[RMV.val,RMV.obj,RFl.val]at f6 f7 f8 f9 b7 b8 g0 HR ⊢;have h9:=Bc f7;have h2:=Bc f8;have h3:=Bc g0;have h4:=Bc h1;clear f7 f8 g0 h1;go_in;go_wp2
 go_loopw [5,6] (fun u v wr=>∃(k:Nat) (d8:Int),k<=h.length/\v=.i (k:Int)/\u=.i d8/\Hid (Cd.mapsBad T (Co D) k d8 ((h.map Prod.fst).drop k)=r)/\Bl w wr /\
   wr.heap[w.heap.size]?=some (O11 c3 l.length c4 c5 ms.length c6)/\wr.heap[w.heap.size+1]?=some (O12 cl nm pa pl pc r1 r2 lo st D ha c7 hc ma h.length mc c8 c9))
  (fun _ v _=>h.length-(intOf v).toNat)
 case atStart=>exact⟨0,-1,Bd,rfl,rfl,HR,f9,b7,b8⟩
 case round=>
  clear f9 b7 b8 HR;obtain⟨k,d8,hk,rfl,rfl,HR,hB,F,G⟩:=hrel;obtain⟨J,K,L,N,O,Q,V,Y,m8,m9,a0,a3⟩:=Ia G;simp at J K L N O Q V Y m8 m9 a0 a3;obtain⟨f0,f1⟩:=cl2 F;simp at f0 f1;have d0:=hB.size;have lF:=Pk F;have j:=Pk G;by_cases a7:k<h.length
  ·have g1:=Ba h3 _ hB;obtain⟨g,hg,i6,_,d9⟩:=Cf g1.1 Bd;have y0:=(d9 _ (Ge h k a7 0 Bd).2).trans (Ge h k a7 0 Bd).1;have y1:=(d9 _ (Ge h k a7 1 Bd).2).trans (Ge h k a7 1 Bd).1;have y2:=(d9 _ (Ge h k a7 2 Bd).2).trans (Ge h k a7 2 Bd).1;obtain⟨f2,f3⟩:=g1.2 _ (Bvh a7);obtain⟨i0,i1⟩:=Ba h4 _ (Bvh a7);have hd:(h.map Prod.fst).drop k=h[k].1::(h.map Prod.fst).drop (k+1):=by
    rw[Wr (by simpa using a7)];simp
   have hr:=Ba HR;rw[hd,Cd.mapsBad]at hr;generalize h[k]=x at *;obtain⟨⟨a4,z,A⟩,v1,v2⟩:=x;simp only at y0 y1 y2 f2 f3 i0 i1 hr;obtain⟨b1,a9,rfl⟩:=Bg f2;obtain⟨b2,b0,rfl⟩:=Bg f3;simp at y0 y1 y2;have h5:=fun w=>Ba h9 a4 w;generalize Cd.begB (Co D) a4=B at *;have HB:=Bc h5;have i2:Hid (∀b,Bl wr b->Dp b bb (.s b1 z.length a9) z):=fun b hb=>f2.kp (Kp.of_below (e:=none) hb) Ck;have i3:Hid (∀b,Bl wr b->Dp b bb (.s b2 A.length b0) A):=fun b hb=>f3.kp (Kp.of_below (e:=none) hb) Ck;generalize a5:Cd.frAll T (Co D) z=LA at *;generalize h6:Cd.frAll T (Co D) A=SA at *;have b3:Hid (Cd.frAll T (Co D) (z.drop 0)=LA):=a5;have b4:Hid (Cd.frAll T (Co D) (A.drop 0)=SA):=h6;have b9:=Bc hr;have i4:(k:Int)<(h.length:Int):=Bd;clear h5 hr hd d9 HR h3 a5 h6 f2 f3 g1 h4;subst hg;have I:=Bf wr (O9 a4 b1 z.length a9 b2 A.length b0);have h7:Bl wr (wr.alloc (O9 a4 b1 z.length a9 b2 A.length b0)):=QN _;have b7:=Bk F (O9 a4 b1 z.length a9 b2 A.length b0);have b8:=Bk G (O9 a4 b1 z.length a9 b2 A.length b0)
   rename World=>w1
   go_wp2_with fail;refine Qm (Ba HB _) ?_;intro w2 d1;have b5:Bl w1 w2:=h7.trans (d1.mono Fr);have d2:=stay d1 b7;have d3:=stay d1 b8;have c0:=stay d1 I;clear J K L N O Q V Y m8 m9 a0 a3 f0 f1 y0 y1 y2 d1 F G b7 b8 I h7;obtain⟨x0,x1,x2⟩:=cl3 c0;simp at x0 x1 x2;cases B with
   | false =>
    have HF:Hid ((k:Int)=r):=by unfold Hid;rw[<- Ba b9];simp
    clear b9;go_wp2;go_ret;exact⟨by rw[<- Ba HF];rfl,hB.trans (b5.mono d0)⟩
   | true =>
    by_cases h8:a4<=d8
    ·have HF:Hid ((k:Int)=r):=by unfold Hid;rw[<- Ba b9];simp[h8]
     clear b9;go_wp2;go_ret;exact⟨by rw[<- Ba HF];rfl,hB.trans (b5.mono d0)⟩
    have g3:Hid ((if LA=false then (k:Int) else if SA=false then (k:Int) else Cd.mapsBad T (Co D) (k+1) a4 ((h.map Prod.fst).drop (k+1)))=r):=by unfold Hid;rw[<- Ba b9];simp[h8]
    clear b9;go_wp2
    go_loopw [9] (fun v wr=>∃q:Nat,q<=z.length/\v=.i (q:Int)/\Hid (Cd.frAll T (Co D) (z.drop q)=LA)/\Bl w1 wr /\
      wr.heap[w.heap.size]?=some (O11 c3 l.length c4 c5 ms.length c6)/\wr.heap[w.heap.size+1]?=some (O12 cl nm pa pl pc r1 r2 lo st D ha c7 hc (.p g) h.length mc c8 c9)/\wr.heap[w1.heap.size]?=some (O9 a4 b1 z.length a9 b2 A.length b0))
     (fun v _=>z.length-(intOf v).toNat)
    case atStart=>exact⟨0,Bd,rfl,b3,b5,d2,d3,c0⟩
    case round=>
     clear b3 b5 d2 d3 c0 x0 x1 x2;obtain⟨q,hq,rfl,b3,a6,F,G,I⟩:=hrel;obtain⟨J,K,L,N,O,Q,V,Y,m8,m9,a0,a3⟩:=Ia G;simp at J K L N O Q V Y m8 m9 a0 a3;obtain⟨f0,f1⟩:=cl2 F;obtain⟨x0,x1,x2⟩:=cl3 I;simp at f0 f1 x0 x1 x2;have f4:=Pk F;have f5:=Pk G;have lX:=Pk I;by_cases d4:q<z.length
     ·obtain⟨g2,g4,g5,_,b6⟩:=Cf (Ba i2 _ a6) Bd;obtain⟨e1,e2,e3⟩:=Gc z q d4;have u0:=(b6 (q*2) Bd).trans e1;have u1:=(b6 (q*2+1) Bd).trans e2;have d5:z.drop q=z[q]::z.drop (q+1):=Wr d4;have hA:=Ba b3;unfold Cd.frAll at hA;rw[d5,B00]at hA;generalize z[q]=t at *;obtain⟨t1,t2⟩:=t;simp only at u0 u1 hA;have d6:=fun w=>Ba h2 t1 t2 w;generalize Cd.framed T (Co D) t1 t2=Z at *;have HZ:=Bc d6;have a8:=Bc hA;have qb:(q:Int)<(z.length:Int):=Bd;clear d6 hA d5 e1 e2 e3 b6 b3;subst g4;have lF:w.heap.size<wr.heap.size:=f4;have j:w.heap.size+1<wr.heap.size:=f5;have lG:g2<wr.heap.size:=g5;go_wp2
      go_region_held3 (fun b=>b.C w.heap.size 0 (.s c3 l.length c4)/\b.C w.heap.size 1 (.s c5 ms.length c6)/\b.C (w.heap.size+1) 0 (.i cl)/\b.C (w.heap.size+1) 1 (.i nm)/\b.C (w.heap.size+1) 2 (.s pa pl pc)/\b.C (w.heap.size+1) 3 (.i r1)/\b.C (w.heap.size+1) 4 (.i r2)/\b.C (w.heap.size+1) 5 (.i lo)/\b.C (w.heap.size+1) 6 (.i st)/\b.C (w.heap.size+1) 7 (.string D)/\b.C (w.heap.size+1) 8 (.s ha c7 hc)/\b.C (w.heap.size+1) 9 (.s (.p g) h.length mc)/\b.C (w.heap.size+1) 10 (.i c8)/\b.C (w.heap.size+1) 11 (.i c9)/\b.C w1.heap.size 1 (.s (.p g2) z.length a9)/\b.C g2 (q*2) (.i t1)/\b.C g2 (q*2+1) (.i t2))
       (first|exact⟨f0,f1,J,K,L,N,O,Q,V,Y,m8,m9,a0,a3,x1,u0,u1⟩|exact⟨QC c lF f0,QC c lF f1,QC c j J,QC c j K,QC c j L,QC c j N,QC c j O,QC c j Q,QC c j V,QC c j Y,QC c j m8,QC c j m9,QC c j a0,QC c j a3,QC c lX x1,QC c lG u0,QC c lG u1⟩)
       (first|(go_at_call 97;refine(Ba HZ _).mono ?_;rintro e w7 ⟨rfl,c⟩))
      have d7:Bl w1 w7:=a6.drew.trans (c.mono a6.size);have g6:=stay c (show (wr.drew).heap[w.heap.size]?=_ from F);have g7:=stay c (show (wr.drew).heap[w.heap.size+1]?=_ from G);have g8:=stay c (show (wr.drew).heap[w1.heap.size]?=_ from I);clear c J K L N O Q V Y m8 m9 a0 a3 f0 f1 x0 x1 x2 u0 u1 F G I a6 lF j lG;cases Z with
      | false =>
       have a5:LA=false:=by rw[<- Ba a8];simp
       have HF:Hid ((k:Int)=r):=by unfold Hid;rw[<- Ba g3,a5];simp
       clear a8;go_wp2;go_ret;exact⟨by rw[<- Ba HF];rfl,hB.trans (d7.mono d0)⟩
      | true =>
       have HG:Hid (Cd.frAll T (Co D) (z.drop (q+1))=LA):=by unfold Hid Cd.frAll;rw[<- Ba a8];simp
       clear a8;go_wp2;go_roundw
       case rel=>exact⟨q+1,Bd,Lt,HG,d7,g6,g7,g8⟩
       case measure=>simp[intOf];omega
     have a5:LA=true:=by rw[<- Ba b3,Bvi Bd];rfl
     have qb:¬(q:Int)<(z.length:Int):=Bd;clear b3;have g9:Hid ((if SA=false then (k:Int) else Cd.mapsBad T (Co D) (k+1) a4 ((h.map Prod.fst).drop (k+1)))=r):=by unfold Hid;rw[<- Ba g3,a5];simp
     have b5:=a6;have d2:=F;have d3:=G;have c0:=I;clear g3 a5 a6 F G I J K L N O Q V Y m8 m9 a0 a3 f0 f1 f4 f5 lX;go_wp2
     go_loopw [11] (fun v wr=>∃q:Nat,q<=A.length/\v=.i (q:Int)/\Hid (Cd.frAll T (Co D) (A.drop q)=SA)/\Bl w1 wr /\
       wr.heap[w.heap.size]?=some (O11 c3 l.length c4 c5 ms.length c6)/\wr.heap[w.heap.size+1]?=some (O12 cl nm pa pl pc r1 r2 lo st D ha c7 hc (.p g) h.length mc c8 c9)/\wr.heap[w1.heap.size]?=some (O9 a4 b1 z.length a9 b2 A.length b0))
      (fun v _=>A.length-(intOf v).toNat)
     case atStart=>exact⟨0,Bd,rfl,b4,b5,d2,d3,c0⟩
     case round=>
      clear b4 b5 d2 d3 c0 x0 x1 x2;obtain⟨q,hq,rfl,b4,a6,F,G,I⟩:=hrel;obtain⟨J,K,L,N,O,Q,V,Y,m8,m9,a0,a3⟩:=Ia G;simp at J K L N O Q V Y m8 m9 a0 a3;obtain⟨f0,f1⟩:=cl2 F;obtain⟨x0,x1,x2⟩:=cl3 I;simp at f0 f1 x0 x1 x2;have f4:=Pk F;have f5:=Pk G;have lX:=Pk I;by_cases d4:q<A.length
      ·obtain⟨g2,g4,g5,_,b6⟩:=Cf (Ba i3 _ a6) Bd;obtain⟨e1,e2,e3⟩:=Gc A q d4;have u0:=(b6 (q*2) Bd).trans e1;have u1:=(b6 (q*2+1) Bd).trans e2;have d5:A.drop q=A[q]::A.drop (q+1):=Wr d4;have hA:=Ba b4;unfold Cd.frAll at hA;rw[d5,B00]at hA;generalize A[q]=t at *;obtain⟨t1,t2⟩:=t;simp only at u0 u1 hA;have d6:=fun w=>Ba h2 t1 t2 w;generalize Cd.framed T (Co D) t1 t2=Z at *;have HZ:=Bc d6;have a8:=Bc hA;have qb:(q:Int)<(A.length:Int):=Bd;clear d6 hA d5 e1 e2 e3 b6 b4;subst g4;have lF:w.heap.size<wr.heap.size:=f4;have j:w.heap.size+1<wr.heap.size:=f5;have lG:g2<wr.heap.size:=g5;go_wp2
       go_region_held3 (fun b=>b.C w.heap.size 0 (.s c3 l.length c4)/\b.C w.heap.size 1 (.s c5 ms.length c6)/\b.C (w.heap.size+1) 0 (.i cl)/\b.C (w.heap.size+1) 1 (.i nm)/\b.C (w.heap.size+1) 2 (.s pa pl pc)/\b.C (w.heap.size+1) 3 (.i r1)/\b.C (w.heap.size+1) 4 (.i r2)/\b.C (w.heap.size+1) 5 (.i lo)/\b.C (w.heap.size+1) 6 (.i st)/\b.C (w.heap.size+1) 7 (.string D)/\b.C (w.heap.size+1) 8 (.s ha c7 hc)/\b.C (w.heap.size+1) 9 (.s (.p g) h.length mc)/\b.C (w.heap.size+1) 10 (.i c8)/\b.C (w.heap.size+1) 11 (.i c9)/\b.C w1.heap.size 2 (.s (.p g2) A.length b0)/\b.C g2 (q*2) (.i t1)/\b.C g2 (q*2+1) (.i t2))
        (first|exact⟨f0,f1,J,K,L,N,O,Q,V,Y,m8,m9,a0,a3,x2,u0,u1⟩|exact⟨QC c lF f0,QC c lF f1,QC c j J,QC c j K,QC c j L,QC c j N,QC c j O,QC c j Q,QC c j V,QC c j Y,QC c j m8,QC c j m9,QC c j a0,QC c j a3,QC c lX x2,QC c lG u0,QC c lG u1⟩)
        (first|(go_at_call 97;refine(Ba HZ _).mono ?_;rintro e w7 ⟨rfl,c⟩))
       have d7:Bl w1 w7:=a6.drew.trans (c.mono a6.size);have g6:=stay c (show (wr.drew).heap[w.heap.size]?=_ from F);have g7:=stay c (show (wr.drew).heap[w.heap.size+1]?=_ from G);have g8:=stay c (show (wr.drew).heap[w1.heap.size]?=_ from I);clear c J K L N O Q V Y m8 m9 a0 a3 f0 f1 x0 x1 x2 u0 u1 F G I a6 lF j lG;cases Z with
       | false =>
        have a5:SA=false:=by rw[<- Ba a8];simp
        have HF:Hid ((k:Int)=r):=by unfold Hid;rw[<- Ba g9,a5];simp
        clear a8;go_wp2;go_ret;exact⟨by rw[<- Ba HF];rfl,hB.trans (d7.mono d0)⟩
       | true =>
        have HG:Hid (Cd.frAll T (Co D) (A.drop (q+1))=SA):=by unfold Hid Cd.frAll;rw[<- Ba a8];simp
        clear a8;go_wp2;go_roundw
        case rel=>exact⟨q+1,Bd,Lt,HG,d7,g6,g7,g8⟩
        case measure=>simp[intOf];omega
      have a5:SA=true:=by rw[<- Ba b4,Bvi Bd];rfl
      have qb:¬(q:Int)<(A.length:Int):=Bd;clear b4;have HG:Hid (Cd.mapsBad T (Co D) (k+1) a4 ((h.map Prod.fst).drop (k+1))=r):=by unfold Hid;rw[<- Ba g9,a5];simp
      clear g9 a5;go_wp2;go_roundw
      case rel=>exact⟨k+1,_,Bd,Lt,rfl,HG,hB.trans (a6.mono d0),F,G⟩
      case measure=>simp[intOf];omega
  have hf:r = -1:=by rw[<- Ba HR,Bvi Fm];rfl
  have HF:=Bc hf;have i4:¬(k:Int)<(h.length:Int):=Bd;clear hf HR;go_wp2;go_ret;exact⟨by rw[Ba HF];rfl,hB⟩
def We{α:Type}[DecidableEq α]{a b:List α}{k:Nat}(c:k<a.length)(e:k<b.length):decide (a.drop k=b.drop k)=(decide (a[k]=b[k])&&decide (a.drop (k+1)=b.drop (k+1))):=by
 rw[Wr c,Wr e];simp only[List.cons.injEq];exact Bool.decide_and _ _
def Bmr(b c:TP)(C D:TA)(F G b1 b2:Nat)(w:TW)(ha:Dp w b1 (.s C b.length F) b)(hb:Dp w b2 (.s D c.length G) c)(hl:b.length<=1000)(a6:c.length<=1000):Calls prog 92 #[.s C b.length F,.s D c.length G] w fun e w'=>e=.r (.bool (decide (b=c)))/\Bl w w':=by
 by_cases t:b.length=c.length
 ·generalize f:decide (b=c)=r;have j:Hid (decide (b.drop 0=c.drop 0)=r):=f;clear f;have a3:((b.length:Int) != (c.length:Int))=false:=Fm;have I:=Bc t;clear t;go_in;go_wp2
  go_loopw [5] (fun v wr=>∃k:Nat,k<=b.length/\v=.i (k:Int)/\Hid (decide (b.drop k=c.drop k)=r)/\Bl w wr)
   (fun v _=>b.length-(intOf v).toNat)
  case atStart=>exact⟨0,Bd,rfl,j,Vm _ _⟩
  case round=>
   clear j;obtain⟨k,hk,rfl,j,l⟩:=hrel;by_cases J:k<b.length
   ·have K:k<c.length:=by have:=Ba I;omega
    obtain⟨g,hg,a7,_,A⟩:=Cf (ha.kp (Kp.of_below (e:=none) l) Ck) Bd;obtain⟨g2,a4,a8,_,B⟩:=Cf (hb.kp (Kp.of_below (e:=none) l) Ck) Bd;obtain⟨L,N,t3⟩:=Gc b k J;obtain⟨O,Q,s3⟩:=Gc c k K;have u0:=(A (k*2) Bd).trans L;have u1:=(A (k*2+1) Bd).trans N;have v0:=(B (k*2) Bd).trans O;have v1:=(B (k*2+1) Bd).trans Q;have f:=Ba j;rw[We J K]at f;generalize b[k]=x at *;generalize c[k]=y at *;obtain⟨V,Y⟩:=x;obtain⟨Z,y2⟩:=y;simp only[Prod.mk.injEq]at u0 u1 v0 v1 f;have a5:(k:Int)<(b.length:Int):=Bd;have a9:(k:Int)<(c.length:Int):=Bd;have z:=Bc f;clear f j A B L N t3 O Q s3;subst hg a4;by_cases p:V=Z/\Y=y2
    ·obtain⟨rfl,rfl⟩:=p;have m:Hid (decide (b.drop (k+1)=c.drop (k+1))=r):=by unfold Hid;rw[<- Ba z];simp
     clear z;go_wp2
     go_region
     all_goals
      go_wp2;go_roundw
      case rel=>exact⟨k+1,Bd,Lt,m,l.drew⟩
      case measure=>simp[intOf];omega
    have q:r=false:=by rw[<- Ba z];simp[p]
    have m:=Bc q;clear z q;by_cases h1:V=Z
    ·subst h1;have h2:¬Y=y2:=fun h=>p ⟨rfl,h⟩;clear p;go_wp2
     go_region
     all_goals
      go_wp2;go_ret;exact⟨by rw[Ba m];rfl,l.drew⟩
    clear p;go_wp2
    go_region
    all_goals
     go_wp2;go_ret;exact⟨by rw[Ba m];rfl,l.drew⟩
   have q:r=true:=by
    rw[<- Ba j,Bvi Bd,Bvi (by have:=Ba I;omega)];rfl
   have m:=Bc q;have a5:¬(k:Int)<(b.length:Int):=Bd;clear q j;go_wp2;go_ret;exact⟨by rw[Ba m];rfl,l⟩
 have a0:b≠c:=fun h=>t (by rw[h]);have hd:decide (b=c)=false:=by simp[a0]
 rw[hd];have a3:((b.length:Int) != (c.length:Int))=true:=Fm;clear t a0;go_in;go_wp2;go_ret;exact⟨rfl,Vm _ _⟩
def RMV.list(m:RMV):List Value:=[.int .i64 m.cl,.int .i64 m.nm,.slice m.pa m.pl m.pc,.int .i64 m.r1,.int .i64 m.r2,.int .i64 m.lo,.int .i64 m.st,.string m.code,.slice m.ha m.hl m.hc,.slice m.ma m.ml m.mc,.int .i64 m.mAt,.int .i64 m.fin]
structure RMV.is(m:RMV)(x:Rf.Mth)(w:World)(bb:Nat):Prop where
 cl:m.cl=x.m.cl
 nm:m.nm=x.m.name
 r1:m.r1=x.m.result.1
 r2:m.r2=x.m.result.2
 lo:m.lo=x.m.locals
 st:m.st=x.m.stack
 mAt:m.mAt=x.mapsAt
 fin:m.fin=x.fin
 pl:m.pl=x.m.params.length
 ps:Dp w bb (.slice m.pa m.pl m.pc) x.m.params
 code:Co m.code=x.m.code
 hl:m.hl=x.m.handlers.length
 hs:Kz w bb (.slice m.ha m.hl m.hc) x.m.handlers
 ml:m.ml=x.m.maps.length
 mp:Bo0 w bb (.slice m.ma m.ml m.mc) x.m.maps
def RMV.is.below{m:RMV}{x:Rf.Mth}{b:TW}(h:m.is x w u)(c:Bl w b):m.is x b u:=by
 obtain⟨f,g,i,j,p,q,s,t,v,z,A,B,C,D,l,F,G⟩:=h;exact⟨f,g,i,j,p,q,s,t,v,z.kp (Kp.of_below (e:=none) c) Ck,A,B,C.kp (Kp.of_below (e:=none) c) Ck,D,l,F,G.kp (Kp.of_below (e:=none) c) Ck Ck⟩
theorem RFl.mth{f:RFl}{w:World}(z:f.ok w){k:Nat}(l:k<f.ms.length):∃(m:RMV) (g:Nat),f.a2=some ⟨g,0,none⟩/\g<w.heap.size/\(∀j v,m.list[j]?=some v->w.cell? ⟨g,k*12+j,none⟩=some v)/\m.is f.ms[k].1 w f.bb:=by
 obtain⟨A,B⟩:=z.2.2.2.2.2;obtain⟨g,C,D,_,F⟩:=Cf A Bd;obtain⟨b,p,c,e,q,h⟩:=B _ (Bvh l);have s:=fun j i=>Bc5 f.ms k l j i;generalize f.ms[k]=x at *;obtain⟨x,u⟩:=x;obtain⟨Z,G,uh,um⟩:=u;simp only at b p c h s;obtain⟨I,J,rfl⟩:=Bg b;obtain⟨K,L,rfl⟩:=Bg c;obtain⟨N,O,rfl⟩:=Bg h.1;have Q:e.length=x.m.maps.length:=by rw[<- q];simp
 refine⟨⟨x.m.cl,x.m.name,I,x.m.params.length,J,x.m.result.1,x.m.result.2,x.m.locals,x.m.stack,G,K,x.m.handlers.length,L,N,e.length,O,x.mapsAt,x.fin⟩,g,C,D,?_,⟨rfl,rfl,rfl,rfl,rfl,rfl,rfl,rfl,rfl,b,p,rfl,c,Q,e,q,h⟩⟩;intro j v t;have i:j<12:=by
  have:=(List.getElem?_eq_some_iff.1 t).1;simpa[RMV.list] using this
 obtain⟨V,Y⟩:=s j i;rw[F _ Y,V,<- t];rfl
def Oe (T:TI)(cl nm r1 r2:Int)(ps:TP)(k i:Nat)(x:Rd.Mth):Bool :=
 if x.name≠nm then false else if x.cl=255 then false else if x.cl=cl then decide (i<k)
 else Tr.rbel T cl x.cl&&(!decide (x.params=ps) || !decide (x.result=(r1,r2)))
def Jg (T:TI)(cl nm r1 r2:Int)(ps:TP)(k:Nat):Nat->List Rd.Mth->Bool
 | _,[]=>true
 | i,x::r=>if Oe T cl nm r1 r2 ps k i x=true then false else Jg T cl nm r1 r2 ps k (i+1) r
def Yf (T:TI)(cl nm r1 r2:Int):Bool :=
 (if cl=255 then !decide (nm=0) else (!Tr.hasB T cl || decide (cl<7))) || (!Tr.plainB T r1 r2 && !decide ((r1,r2)=(0,0)))
def Nn (cl lo:Int)(ps:TP):Bool:=decide (lo<(ps.length:Int)) || (!decide (cl=255)&&decide (lo=(ps.length:Int)))
def Rx (T:TI)(ms:List Rd.Mth)(k:Nat)(cl nm r1 r2 lo:Int)(ps:TP):Bool :=
 if Yf T cl nm r1 r2=true then false else if Tr.allPlainB T ps=false then false else if Nn cl lo ps=true then false
 else if cl=255 then true else Jg T cl nm r1 r2 ps k 0 ms
def Ua{m:RMV}{k:Nat}(h:∀j v,m.list[j]?=some v->w.C u (k*12+j) v):w.C u (k*12) (.i m.cl)/\w.C u (k*12+1) (.i m.nm)/\w.C u (k*12+2) (.s m.pa m.pl m.pc)/\w.C u (k*12+3) (.i m.r1)/\w.C u (k*12+4) (.i m.r2)/\w.C u (k*12+5) (.i m.lo)/\w.C u (k*12+6) (.i m.st)/\w.C u (k*12+7) (.string m.code)/\w.C u (k*12+8) (.s m.ha m.hl m.hc)/\w.C u (k*12+9) (.s m.ma m.ml m.mc)/\w.C u (k*12+10) (.i m.mAt)/\w.C u (k*12+11) (.i m.fin) :=
 ⟨h 0 _ rfl,h 1 _ rfl,h 2 _ rfl,h 3 _ rfl,h 4 _ rfl,h 5 _ rfl,h 6 _ rfl,h 7 _ rfl,h 8 _ rfl,h 9 _ rfl,h 10 _ rfl,h 11 _ rfl⟩
def Bmw(f:RFl)(k:Nat)(w:TW)(hf:f.ok w)(hk:k<f.ms.length)(h1:∀p∈f.ms,p.1.m.params.length<=1000):Calls prog 57 #[f.val,.i (k:Int)] w fun e z => e=.r (.bool (Rx f.T (f.ms.map fun p=>p.1.m) k f.ms[k].1.m.cl f.ms[k].1.m.name f.ms[k].1.m.result.1 f.ms[k].1.m.result.2 f.ms[k].1.m.locals f.ms[k].1.m.params))/\Bl w z:=by
 obtain⟨m,g,hg,q2,h2,o1⟩:=RFl.mth hf hk;have k5:=h1 _ (Bvh hk);have o2:f.ms.length<=6:=hf.2.2.1;replace h2:=Ua h2;obtain⟨d1,d2,d3,d4,k6,-,-,-,d5,k7,-,-,-,-,-⟩:=o1;rw[<- d1,<- d2,<- d3,<- d4,<- k6];generalize f.ms[k].1.m.params=b at *;have h3:=fun x w=>N4 f.T f.a1 f.a2 f.c1 f.ms.length f.c2 x w;have d6:=fun x y w=>Yo f.T f.a1 f.a2 f.c1 f.ms.length f.c2 x y w;have h4:=fun x y w (h:f.ok w)=>N5 f.a1 f.a2 f.c1 f.ms.length f.c2 f.bb f.l x y w (by have:=h.1;omega) h.2.2.2.2.1;have k8:f.T.length=f.l.length:=Kd _;rw[k8]at h3 d6;have k9:Cw f.l=f.T:=rfl;rw[k9]at h4;have l0:∀z,Bl w z->f.ok z:=fun z hb=>hf.below hb;have j1:∀z i (hi:i<f.ms.length),Bl w z->∃(m:RMV) (g:Nat),f.a2=some ⟨g,0,none⟩/\g<z.heap.size/\(∀j v,m.list[j]?=some v->z.C g (i*12+j) v)/\m.is f.ms[i].1 z f.bb:=fun z i hi hb=>RFl.mth (hf.below hb) hi;have j2:∀z,Bl w z->Dp z f.bb (.s m.pa m.pl m.pc) b:=fun z hb=>k7.kp (Kp.of_below (e:=none) hb) Ck;generalize f.T=T at *;clear hf k7 d1 d2 d3 d4 k6 k8 k9;obtain⟨b3,b4,q3,b5,bb,l,c⟩:=f;obtain⟨D,nm,pa,pl,pc,A,B,lo,st,c6,ha,hl,hc,ma,ml,mc,c7,c8⟩:=m;simp only at d5 hg hk;subst d5 hg;simp only[RFl.val]at h3 d6 h4 h2 j2 k5 h1 j1 o2 ⊢;obtain⟨y0,y1,y2,y3,y4,y5,y6,y7,y8,y9,o3,o4⟩:=h2;have q4:(k:Int)<(c.length:Int):=Bd;have l1:=fun w=>h3 D w;have l2:=fun w=>d6 A B w;generalize G:Rx T (c.map fun p=>p.1.m) k D nm A B lo b=R;unfold Rx Yf at G;generalize Tr.hasB T D=K at *;generalize Tr.plainB T A B=P at *;have o5:=Bc l1;have o6:=Bc l2;have l3:=Bc d6;have o7:=Bc h4;have o8:=Bc l0;have o9:=Bc j1;have j3:=Bc j2;have p0:=Bc h1;clear l1 l2 h3 d6 h4 l0 j1 j2 h1;have l4:=Bx w (O11 b3 l.length b4 (.p g) c.length b5) (O12 D nm pa b.length pc A B lo st c6 ha hl hc ma ml mc c7 c8);have l5:=Cb w (O11 b3 l.length b4 (.p g) c.length b5) (O12 D nm pa b.length pc A B lo st c6 ha hl hc ma ml mc c7 c8);have l6:=Bv w (O11 b3 l.length b4 (.p g) c.length b5) (O12 D nm pa b.length pc A B lo st c6 ha hl hc ma ml mc c7 c8);go_in;go_wp2_with fail;refine Qm (Ba o5 _) ?_;intro w1 h5;have l7:=l4.trans (h5.mono Fm);have j4:=stay h5 l5;have d7:=stay h5 l6;clear h5 l4 l5 l6 y0 y1 y2 y3 y4 y5 y6 y7 y8 y9 o3 o4;obtain⟨N,O⟩:=cl2 j4;obtain⟨m0,m1⟩:=cl2 d7;have I:=Bb d7 3;have J:=Bb d7 4;simp at N O m0 m1 I J;go_wp2_with fail;refine Qb (Ba o6 _) l7 ?_;intro w2 j5 b0;have d8:=stay j5 j4;have d9:=stay j5 d7;clear j5 l7 j4 d7 N O m0 m1 I J;obtain⟨m0,m1,Q,I,J,m5,m6,m7,m8,m9,a4,a5⟩:=Ia d9;simp at m0 m1 Q I J m5 m6 m7 m8 m9 a4 a5;obtain⟨N,O⟩:=cl2 d8;simp at N O;by_cases a7:D=255
 ·subst a7;by_cases l8:nm=0
  ·subst l8;obtain hg|⟨rfl,hg⟩:(P=true\/P=false/\A=0/\B=0)\/(P=false/\¬(A=0/\B=0)):=by cases P<;>simp<;>omega
   ·rcases hg with rfl|⟨rfl,e1,e2⟩
    all_goals
     generalize f2:Tr.allPlainB T b=AP at G;have a3:Hid (Tr.allPlainB T (b.drop 0)=AP):=f2;clear f2;have b9:Hid ((if AP=false then false else if Nn 255 lo b=true then false else if (255:Int)=255 then true else Jg T 255 0 A B b k 0 (c.map fun p=>p.1.m))=R):=by
      unfold Hid;rw[<- G]
      first|(simp ;done)|simp[e1,e2]
     try (have z1:(A==0)=true:=by simp[e1];have z2:(B==0)=true:=by simp[e2];clear e1 e2)
     clear G;go_wp2
     go_loopw [9] (fun v wr=>∃q:Nat,q<=b.length/\v=.i (q:Int)/\Hid (Tr.allPlainB T (b.drop q)=AP)/\Bl w wr/\wr.heap[w.heap.size]?=some (O11 b3 l.length b4 (.p g) c.length b5)/\wr.heap[w.heap.size+1]?=some (O12 255 0 pa b.length pc A B lo st c6 ha hl hc ma ml mc c7 c8))
      (fun v _=>b.length-(intOf v).toNat)
     case atStart=>exact⟨0,Bd,rfl,a3,b0,d8,d9⟩
     case round=>
      clear a3 b0 d8 d9 N O m0 m1 Q I J m5 m6 m7 m8 m9 a4 a5;obtain⟨q,hq,rfl,a3,L,CF,CM⟩:=hrel;obtain⟨m0,m1,Q,I,J,m5,m6,m7,m8,m9,a4,a5⟩:=Ia CM;simp at m0 m1 Q I J m5 m6 m7 m8 m9 a4 a5;obtain⟨N,O⟩:=cl2 CF;simp at N O;have lF:w.heap.size<wr.heap.size:=Pk CF;have lM:w.heap.size+1<wr.heap.size:=Pk CM;have c0:=L.size;by_cases f3:q<b.length
      ·obtain⟨g2,j6,j7,_,c3⟩:=Cf (Ba j3 _ L) Bd;obtain⟨e1,e2,e3⟩:=Gc b q f3;have u0:=(c3 (q*2) Bd).trans e1;have u1:=(c3 (q*2+1) Bd).trans e2;have f4:b.drop q=b[q]::b.drop (q+1):=Wr f3;have hA:=Ba a3;rw[f4,Rn]at hA;generalize b[q]=t at *;obtain⟨t1,t2⟩:=t;simp only at u0 u1 hA;have f5:=fun w=>Ba l3 t1 t2 w;generalize Tr.plainB T t1 t2=Z at *;have HZ:=Bc f5;have b2:=Bc hA;have qb:(q:Int)<(b.length:Int):=Bd;have lG:g2<wr.heap.size:=j7;clear f5 hA f4 e1 e2 e3 c3 a3;subst j6;go_wp2
       go_region_held3 (fun z=>z.C w.heap.size 0 (.s b3 l.length b4)/\z.C w.heap.size 1 (.s (.p g) c.length b5)/\z.C (w.heap.size+1) 2 (.s (.p g2) b.length pc)/\z.C g2 (q*2) (.i t1)/\z.C g2 (q*2+1) (.i t2))
        (first|exact⟨N,O,Q,u0,u1⟩|exact⟨QC V lF N,QC V lF O,QC V lM Q,QC V lG u0,QC V lG u1⟩)
        (first|(go_at_call 90;refine(Ba HZ _).mono ?_;rintro e w7 ⟨rfl,V⟩))
       have f6:Bl w w7:=L.drew.trans (V.mono c0);have j8:=stay V (show (wr.drew).heap[w.heap.size]?=_ from CF);have j9:=stay V (show (wr.drew).heap[w.heap.size+1]?=_ from CM);clear V m0 m1 Q I J m5 m6 m7 m8 m9 a4 a5 N O u0 u1 CF CM L lF lM lG;cases Z with
       | false =>
        have b1:AP=false:=by rw[<- Ba b2];simp
        have F:Hid (R=false):=by unfold Hid;rw[<- Ba b9,b1];simp
        clear b2 b1;go_wp2;go_ret;exact⟨by rw[Ba F];rfl,f6⟩
       | true =>
        have HG:Hid (Tr.allPlainB T (b.drop (q+1))=AP):=by unfold Hid;rw[<- Ba b2];simp
        clear b2;go_wp2;go_roundw
        case rel=>exact⟨q+1,Bd,Lt,HG,f6,j8,j9⟩
        case measure=>simp[intOf];omega
      have b1:AP=true:=by rw[<- Ba a3,Bvi Bd];rfl
      have qb:¬(q:Int)<(b.length:Int):=Bd;have a6:=Ba b9;rw[b1,Pf Fr]at a6;clear a3 b1 b9;by_cases f7:lo<(b.length:Int)
      ·have F:Hid (R=false):=by unfold Hid;rw[<- a6];simp[Nn,f7]
       clear a6;go_wp2;go_ret;exact⟨by rw[Ba F];rfl,L⟩
      have F:Hid (R=true):=by unfold Hid;rw[<- a6];simp[Nn,f7]
      clear a6;go_wp2
      go_loopw [11] (fun v p1=>v=.i 0/\p1=wr) (fun _ _=>0)
      case atStart=>exact⟨rfl,rfl⟩
      case round=>
       obtain⟨rfl,rfl⟩:=hrel;go_wp2;go_ret;exact⟨by rw[Ba F];rfl,L⟩
   by_cases f8:A=0
   ·subst f8;have k0:¬B=0:=fun h=>hg ⟨rfl,h⟩;clear hg;have F:Hid (R=false):=by unfold Hid;rw[<- G];simp[k0]
    clear G;go_wp2;go_ret;exact⟨by rw[Ba F];rfl,b0⟩
   clear hg;have F:Hid (R=false):=by unfold Hid;rw[<- G];simp[f8]
   clear G;go_wp2;go_ret;exact⟨by rw[Ba F];rfl,b0⟩
  have F:Hid (R=false):=by unfold Hid;rw[<- G];simp[l8]
  clear G;go_wp2;go_ret;exact⟨by rw[Ba F];rfl,b0⟩
 have q5:(D != 255)=true:=by simp[a7]
 cases K with
 | false =>
  have F:Hid (R=false):=by unfold Hid;rw[<- G];simp[a7]
  clear G;go_wp2;go_ret;exact⟨by rw[Ba F];rfl,b0⟩
 | true =>
  by_cases h7:D<7
  ·have F:Hid (R=false):=by unfold Hid;rw[<- G];simp[a7,h7]
   clear G;go_wp2;go_ret;exact⟨by rw[Ba F];rfl,b0⟩
  obtain hg|⟨rfl,hg⟩:(P=true\/P=false/\A=0/\B=0)\/(P=false/\¬(A=0/\B=0)):=by cases P<;>simp<;>omega
  ·rcases hg with rfl|⟨rfl,e1,e2⟩
   all_goals
    generalize f2:Tr.allPlainB T b=AP at G;have a3:Hid (Tr.allPlainB T (b.drop 0)=AP):=f2;clear f2;have b9:Hid ((if AP=false then false else if Nn D lo b=true then false else if D=255 then true else Jg T D nm A B b k 0 (c.map fun p=>p.1.m))=R):=by
     unfold Hid;rw[<- G]
     first|(simp[a7,h7];done)|simp[a7,h7,e1,e2]
    try (have z1:(A==0)=true:=by simp[e1];have z2:(B==0)=true:=by simp[e2];clear e1 e2)
    clear G;go_wp2
    go_loopw [9] (fun v wr=>∃q:Nat,q<=b.length/\v=.i (q:Int)/\Hid (Tr.allPlainB T (b.drop q)=AP)/\Bl w wr/\wr.heap[w.heap.size]?=some (O11 b3 l.length b4 (.p g) c.length b5)/\wr.heap[w.heap.size+1]?=some (O12 D nm pa b.length pc A B lo st c6 ha hl hc ma ml mc c7 c8))
     (fun v _=>b.length-(intOf v).toNat)
    case atStart=>exact⟨0,Bd,rfl,a3,b0,d8,d9⟩
    case round=>
     clear a3 b0 d8 d9 N O m0 m1 Q I J m5 m6 m7 m8 m9 a4 a5;obtain⟨q,hq,rfl,a3,L,CF,CM⟩:=hrel;obtain⟨m0,m1,Q,I,J,m5,m6,m7,m8,m9,a4,a5⟩:=Ia CM;simp at m0 m1 Q I J m5 m6 m7 m8 m9 a4 a5;obtain⟨N,O⟩:=cl2 CF;simp at N O;have lF:w.heap.size<wr.heap.size:=Pk CF;have lM:w.heap.size+1<wr.heap.size:=Pk CM;have c0:=L.size;by_cases f3:q<b.length
     ·obtain⟨g2,j6,j7,_,c3⟩:=Cf (Ba j3 _ L) Bd;obtain⟨e1,e2,e3⟩:=Gc b q f3;have u0:=(c3 (q*2) Bd).trans e1;have u1:=(c3 (q*2+1) Bd).trans e2;have f4:b.drop q=b[q]::b.drop (q+1):=Wr f3;have hA:=Ba a3;rw[f4,Rn]at hA;generalize b[q]=t at *;obtain⟨t1,t2⟩:=t;simp only at u0 u1 hA;have f5:=fun w=>Ba l3 t1 t2 w;generalize Tr.plainB T t1 t2=Z at *;have HZ:=Bc f5;have b2:=Bc hA;have qb:(q:Int)<(b.length:Int):=Bd;have lG:g2<wr.heap.size:=j7;clear f5 hA f4 e1 e2 e3 c3 a3;subst j6;go_wp2
      go_region_held3 (fun z=>z.C w.heap.size 0 (.s b3 l.length b4)/\z.C w.heap.size 1 (.s (.p g) c.length b5)/\z.C (w.heap.size+1) 2 (.s (.p g2) b.length pc)/\z.C g2 (q*2) (.i t1)/\z.C g2 (q*2+1) (.i t2))
       (first|exact⟨N,O,Q,u0,u1⟩|exact⟨QC V lF N,QC V lF O,QC V lM Q,QC V lG u0,QC V lG u1⟩)
       (first|(go_at_call 90;refine(Ba HZ _).mono ?_;rintro e w7 ⟨rfl,V⟩))
      have f6:Bl w w7:=L.drew.trans (V.mono c0);have j8:=stay V (show (wr.drew).heap[w.heap.size]?=_ from CF);have j9:=stay V (show (wr.drew).heap[w.heap.size+1]?=_ from CM);clear V m0 m1 Q I J m5 m6 m7 m8 m9 a4 a5 N O u0 u1 CF CM L lF lM lG;cases Z with
      | false =>
       have b1:AP=false:=by rw[<- Ba b2];simp
       have F:Hid (R=false):=by unfold Hid;rw[<- Ba b9,b1];simp
       clear b2 b1;go_wp2;go_ret;exact⟨by rw[Ba F];rfl,f6⟩
      | true =>
       have HG:Hid (Tr.allPlainB T (b.drop (q+1))=AP):=by unfold Hid;rw[<- Ba b2];simp
       clear b2;go_wp2;go_roundw
       case rel=>exact⟨q+1,Bd,Lt,HG,f6,j8,j9⟩
       case measure=>simp[intOf];omega
     have b1:AP=true:=by rw[<- Ba a3,Bvi Bd];rfl
     have qb:¬(q:Int)<(b.length:Int):=Bd;have a6:=Ba b9;rw[b1,Pf Fr]at a6;clear a3 b1 b9;by_cases f7:lo<(b.length:Int)
     ·have F:Hid (R=false):=by unfold Hid;rw[<- a6];simp[Nn,f7]
      clear a6;go_wp2;go_ret;exact⟨by rw[Ba F];rfl,L⟩
     by_cases l9:lo=(b.length:Int)
     ·have F:Hid (R=false):=by unfold Hid;rw[<- a6];simp[Nn,l9,a7]
      clear a6;go_wp2;go_ret;exact⟨by rw[Ba F];rfl,L⟩
     have HL:Hid (Jg T D nm A B b k 0 ((c.map fun p=>p.1.m).drop 0)=R):=by unfold Hid;rw[<- a6];simp[Nn,f7,l9,a7]
     clear a6;go_wp2
     go_loopw [11] (fun v wr=>∃i:Nat,i<=c.length/\v=.i (i:Int)/\Hid (Jg T D nm A B b k i ((c.map fun p=>p.1.m).drop i)=R)/\Bl w wr/\wr.heap[w.heap.size]?=some (O11 b3 l.length b4 (.p g) c.length b5)/\wr.heap[w.heap.size+1]?=some (O12 D nm pa b.length pc A B lo st c6 ha hl hc ma ml mc c7 c8))
      (fun v _=>c.length-(intOf v).toNat)
     case atStart=>exact⟨0,Bd,rfl,HL,L,CF,CM⟩
     case round=>
      clear HL L CF CM N O m0 m1 Q I J m5 m6 m7 m8 m9 a4 a5 lF lM c0;obtain⟨i,hi,rfl,HL,L,CF,CM⟩:=hrel;obtain⟨m0,m1,Q,I,J,m5,m6,m7,m8,m9,a4,a5⟩:=Ia CM;simp at m0 m1 Q I J m5 m6 m7 m8 m9 a4 a5;obtain⟨N,O⟩:=cl2 CF;simp at N O;have lF:w.heap.size<wr.heap.size:=Pk CF;have lM:w.heap.size+1<wr.heap.size:=Pk CM;have c0:=L.size;by_cases k1:i<c.length
      ·obtain⟨mx,gx,k2,q6,h6,p2⟩:=Ba o9 wr i k1 L;have p3:=Ba p0 _ (Bvh k1);have hd:(c.map fun p=>p.1.m).drop i=c[i].1.m::(c.map fun p=>p.1.m).drop (i+1):=by
        rw[Wr (by simpa using k1)];simp
       have hr:=Ba HL;rw[hd,Jg,Oe]at hr;obtain⟨d1,d2,d3,d4,-,-,-,-,d5,k3,-,-,-,-,-⟩:=p2;have n0:c[i].1.m.result=(mx.r1,mx.r2):=by rw[d3,d4]
       rw[<- d1,<- d2,n0]at hr;replace h6:=Ua h6;generalize c[i].1.m.params=b6 at *;obtain⟨a8,c4,c9,q7,d0,f9,g0,h8,h9,i0,i1,i2,i3,i4,i5,i6,i7,i8⟩:=mx;simp only at d5 k2;subst d5;obtain rfl:g=gx:=by simpa using k2
       simp only at hr h6 k3;obtain⟨z0,z1,z2,z3,z4,z5,z6,z7,z8,z9,p4,p5⟩:=h6;have ib:(i:Int)<(c.length:Int):=Bd;have p6:=Bc k3;have n1:=fun w h=>Ba o7 D a8 w h;generalize Tr.rbel T D a8=U at *;have HU:=Bc n1;have a0:=Bc hr;have CX:=Bf wr (O12 a8 c4 c9 b6.length d0 f9 g0 h8 h9 i0 i1 i2 i3 i4 i5 i6 i7 i8);have c5:=L.alloc c0 (O12 a8 c4 c9 b6.length d0 f9 g0 h8 h9 i0 i1 i2 i3 i4 i5 i6 i7 i8);have g1:=Bk CF (O12 a8 c4 c9 b6.length d0 f9 g0 h8 h9 i0 i1 i2 i3 i4 i5 i6 i7 i8);have g3:=Bk CM (O12 a8 c4 c9 b6.length d0 f9 g0 h8 h9 i0 i1 i2 i3 i4 i5 i6 i7 i8);clear hd hr k3 d1 d2 d3 d4 n0 HL k2 n1;by_cases a9:c4=nm
       ·have p7:(c4 != nm)=false:=by simp[a9]
        by_cases b7:a8=255
        ·have p8:(a8==255)=true:=by simp[b7]
         have Y:Hid (Jg T D nm A B b k (i+1) ((c.map fun p=>p.1.m).drop (i+1))=R):=by unfold Hid;rw[<- Ba a0];simp[a9,b7]
         clear a9 b7;clear a0;go_wp2;go_roundw
         case rel=>exact⟨i+1,Bd,Lt,Y,c5,g1,g3⟩
         case measure=>simp[intOf];omega
        have p8:(a8==255)=false:=by simp[b7]
        by_cases b8:a8=D
        ·have p9:(a8==D)=true:=by simp[b8]
         by_cases n2:i<k
         ·have q0:(i:Int)<(k:Int):=Bd;have Y:Hid (R=false):=by unfold Hid;rw[<- Ba a0];simp[a9,b8,n2,a7]
          clear a9 b7 b8;clear a0;go_wp2;go_ret;exact⟨by rw[Ba Y];rfl,c5⟩
         have q0:¬(i:Int)<(k:Int):=Bd;have Y:Hid (Jg T D nm A B b k (i+1) ((c.map fun p=>p.1.m).drop (i+1))=R):=by unfold Hid;rw[<- Ba a0];simp[a9,b8,n2,a7]
         clear a9 b7 b8;clear a0;go_wp2;go_roundw
         case rel=>exact⟨i+1,Bd,Lt,Y,c5,g1,g3⟩
         case measure=>simp[intOf];omega
        have p9:(a8==D)=false:=by simp[b8]
        have g4:=Bc a9;have g5:=Bc b7;have g6:=Bc b8;clear a9 b7 b8;go_wp2_with fail;refine Qb (Ba HU _ (Ba o8 _ c5)) c5 ?_;intro w3 g7 k4;have n3:=stay g7 g1;have g8:=stay g7 g3;have g9:=stay g7 CX;have n4:Dp w3 bb (.s c9 b6.length d0) b6:=(Ba p6).kp (Kp.of_below (e:=none) ((QN _).trans (g7.mono Fr))) Ck;have n5:=Ba j3 _ k4;clear g7 c5 CF CM g1 g3 CX L N O m0 m1 Q I J m5 m6 m7 m8 m9 a4 a5 z0 z1 z2 z3 z4 z5 z6 z7 z8 z9 p4 p5 lF lM c0;have Q:=Bb g8 2;have I:=Bb g8 3;have J:=Bb g8 4;have x2:=Bb g9 2;have x3:=Bb g9 3;have x4:=Bb g9 4;simp at Q I J x2 x3 x4;have n6:=Bmr b6 b c9 pa d0 pc bb bb w3 n4 n5 p3 k5;generalize decide (b6=b)=SM at *;have q1:=Bc n6;clear n6 n4 n5;go_wp2_with fail;refine Qb (Ba q1) k4 ?_;intro w4 i9 h0;have n7:=stay i9 n3;have j0:=stay i9 g8;have n8:=stay i9 g9;clear i9 k4 n3 g8 g9 Q I J x2 x3 x4;have I:=Bb j0 3;have J:=Bb j0 4;have x3:=Bb n8 3;have x4:=Bb n8 4;simp at I J x3 x4;cases U with
        | false =>
         have Y:Hid (Jg T D nm A B b k (i+1) ((c.map fun p=>p.1.m).drop (i+1))=R):=by unfold Hid;rw[<- Ba a0];simp[Ba g4,Ba g5,Ba g6]
         clear a0;go_wp2;go_roundw
         case rel=>exact⟨i+1,Bd,Lt,Y,h0,n7,j0⟩
         case measure=>simp[intOf];omega
        | true =>
         cases SM with
         | false =>
          have Y:Hid (R=false):=by unfold Hid;rw[<- Ba a0];simp[Ba g4,Ba g5,Ba g6]
          clear a0;go_wp2;go_ret;exact⟨by rw[Ba Y];rfl,h0⟩
         | true =>
          by_cases n9:f9=A
          ·by_cases o0:g0=B
           ·have Y:Hid (Jg T D nm A B b k (i+1) ((c.map fun p=>p.1.m).drop (i+1))=R):=by unfold Hid;rw[<- Ba a0];simp[Ba g4,Ba g5,Ba g6,n9,o0]
            clear a0;go_wp2;go_roundw
            case rel=>exact⟨i+1,Bd,Lt,Y,h0,n7,j0⟩
            case measure=>simp[intOf];omega
           have Y:Hid (R=false):=by unfold Hid;rw[<- Ba a0];simp[Ba g4,Ba g5,Ba g6,o0]
           clear a0;go_wp2;go_ret;exact⟨by rw[Ba Y];rfl,h0⟩
          have Y:Hid (R=false):=by unfold Hid;rw[<- Ba a0];simp[Ba g4,Ba g5,Ba g6,n9]
          clear a0;go_wp2;go_ret;exact⟨by rw[Ba Y];rfl,h0⟩
       have p7:(c4 != nm)=true:=by simp[a9]
       have Y:Hid (Jg T D nm A B b k (i+1) ((c.map fun p=>p.1.m).drop (i+1))=R):=by unfold Hid;rw[<- Ba a0];simp[a9]
       clear a9;clear a0;go_wp2;go_roundw
       case rel=>exact⟨i+1,Bd,Lt,Y,c5,g1,g3⟩
       case measure=>simp[intOf];omega
      have Y:Hid (R=true):=by unfold Hid;rw[<- Ba HL,Bvi Fm];rfl
      have ib:¬(i:Int)<(c.length:Int):=Bd;clear HL;go_wp2;go_ret;exact⟨by rw[Ba Y];rfl,L⟩
  by_cases f8:A=0
  ·subst f8;have k0:¬B=0:=fun h=>hg ⟨rfl,h⟩;clear hg;have F:Hid (R=false):=by unfold Hid;rw[<- G];simp[a7,h7,k0]
   clear G;go_wp2;go_ret;exact⟨by rw[Ba F];rfl,b0⟩
  clear hg;have F:Hid (R=false):=by unfold Hid;rw[<- G];simp[a7,h7,f8]
  clear G;go_wp2;go_ret;exact⟨by rw[Ba F];rfl,b0⟩
structure Rf.MBd(x:Rf.Mth):Prop where
 ps:x.m.params.length<=1000
 code:x.m.code.length<=100000
 hs:x.m.handlers.length<=1000
 mp:x.m.maps.length<=1000
 fr:∀p∈x.m.maps,p.locals.length<=1000/\p.stack.length<=1000
def Bf5{α:Type}(P:α->Prop)(f:Int->α×Int)(h:∀i,P (f i).1)(n:Nat)(i:Int):(∀x∈(Rf.rep f n i).1,P x)/\(Rf.rep f n i).1.length<=n:=by
 induction n with
 | zero=>simp[Rf.rep]
 | succ k ih =>
  unfold Rf.rep
  split
  ·simp
  split
  ·simp
  refine⟨?_,by simp;exact ih.2⟩;intro x b;simp only[Bwt,Bxa]at b;rcases b with b|b
  ·exact ih.1 x b
  rw[b];exact h _
def Bld(s:TB)(i:Int)(n:Nat):(Rf.codeTo s i n).length=n:=by
 induction n with
 | zero=>rfl
 | succ k ih=>simp[Rf.codeTo,ih]
def Bqt(s:TB)(i:Int):(Rf.hnds s i).1.length<=1000:=by
 unfold Rf.hnds;have b:=Rf.cnt_bd s i 0 4 Bd
 split
 ·simp
 split
 ·simp
 simp only;rw[Ben];omega
def Bna(s:TB)(i L H:Int)(c:L<=8)(b:-1<=H)(e:H<=8):(Rf.mps s i L H).1.length<=1000/\∀p∈(Rf.mps s i L H).1,p.locals.length<=1000/\p.stack.length<=1000:=by
 unfold Rf.mps;have f:=Rf.cnt_bd s i 0 64 Bd
 split
 ·simp
 have:=Bf5 (fun p:Rd.Mp=>p.locals.length<=1000/\p.stack.length<=1000) (Rf.mp s L H) (fun j=>by
  unfold Rf.mp;have g:=Rf.cnt_bd s (j+1+2*L) 0 H b
  split
  ·simp
  simp only;rw[Oy,Oy];omega) (Rf.cnt s i 0 64).toNat (i+1)
 exact⟨Bd,this.1⟩
def Bub(s:TB)(i:Int):Rf.MBd (Rf.mth s i).1:=by
 have none:Rf.MBd ⟨⟨0,0,[],(0,0),0,0,[],[],[]⟩,0,0⟩:=⟨Fr,Fr,Fr,Fr,Fr⟩;unfold Rf.mth;have e:=Rf.cnt_bd s (i+2) 0 4 Bd;have c:=Rf.cnt_bd s (i+3+2*Rf.cnt s (i+2) 0 4+2) 0 8 Bd;have b:=Rf.cnt_bd s (i+3+2*Rf.cnt s (i+2) 0 4+3) 0 8 Bd;have f:=Rf.cnt_bd s (i+3+2*Rf.cnt s (i+2) 0 4+4) 1 120 Bd;dsimp only
 split
 ·exact none
 split
 ·exact none
 split
 ·exact none
 split
 ·exact none
 split
 ·exact none
 split
 ·exact none
 exact⟨by simp only;rw[Oy];omega,by simp only;rw[Bld];omega,Bqt s _,(Bna s _ _ _ c.2 b.1 b.2).1,(Bna s _ _ _ c.2 b.1 b.2).2⟩
def Bjq(s:TB):(Rf.fil s).2.1.length<=6/\∀x∈(Rf.fil s).2.1,Rf.MBd x:=by
 unfold Rf.fil
 split
 ·simp
 split
 ·simp
 split
 ·simp
 dsimp only
 split
 ·simp
 split
 ·simp
 split
 ·simp
 have b:=Rf.cnt_bd s (Rf.rep (Rf.cls s) (Rf.cnt s 2 0 6).toNat 3).2 1 6 Bd;have:=Bf5 Rf.MBd (Rf.mth s) (Bub s) (Rf.cnt s (Rf.rep (Rf.cls s) (Rf.cnt s 2 0 6).toNat 3).2 1 6).toNat ((Rf.rep (Rf.cls s) (Rf.cnt s 2 0 6).toNat 3).2+1);exact⟨Ls,this.1⟩
def Ip (T:TI)(ms:List Rd.Mth)(k:Nat)(m:Rd.Mth):Bool:=Rx T ms k m.cl m.name m.result.1 m.result.2 m.locals m.params
def Ho (T:TI)(ms:List Rd.Mth):Nat->List Rd.Mth->Int
 | _,[]=>-1
 | k,m::r=>if Ip T ms k m=false then (k:Int) else Ho T ms (k+1) r
def Ou (T:TI)(nf:Int)(ow:TI)(m:Rd.Mth):Int × Int :=
 if 0<=Cd.badCode T nf ow m.locals m.code then (5,Cd.badCode T nf ow m.locals m.code)
 else if 0<=Cd.firstIx (Cd.hndBad T m.code) 0 m.handlers then (6,Cd.firstIx (Cd.hndBad T m.code) 0 m.handlers)
 else if 0<=Cd.mapsBad T m.code 0 (-1) m.maps then (7,Cd.mapsBad T m.code 0 (-1) m.maps)
 else (0,0)
def Jy (T:TI)(nf:Int)(ow:TI):Nat->List Rd.Mth->Int × Int × Int
 | _,[]=>(0,0,0)
 | k,m::r=>if (Ou T nf ow m).1≠0 then ((Ou T nf ow m).1,(k:Int),(Ou T nf ow m).2) else Jy T nf ow (k+1) r
def Tx (T:TI)(nf:Int)(ms:List Rd.Mth):Int × Int × Int :=
 if 0<=Ho T ms 0 ms then (4,Ho T ms 0 ms,0) else Jy T nf (ms.map Rd.Mth.cl) 0 ms
def Rf.nf(s:TB):Int:=((Rf.fieldsTo (Tr.tree (Rf.fil s).1) (Rf.given++(Rf.fil s).1) (Rf.fil s).1.length).length:Int)
def Rf.formed(s:TB):Int × Int × Int :=
 if (Rf.classed s).1≠0 then ((Rf.classed s).1,(Rf.classed s).2,0) else Tx (Tr.tree (Rf.fil s).1) (Rf.nf s) ((Rf.fil s).2.1.map Rf.Mth.m)
def Bhs (s:TB)(w:TW)(e:Ending)(w':TW):Prop :=
 ∃a1 n1 c1 a2 n2 c2,e=.returned (.tuple #[.agg #[.slice a1 n1 c1,.slice a2 n2 c2],.int .i64 (Rf.formed s).1,.int .i64 (Rf.formed s).2.1,.int .i64 (Rf.formed s).2.2]) /\
  ((Rf.formed s).1=0->∃l1 l2,l1.map Prod.fst=Rf.given++(Rf.fil s).1/\Ir w' w.heap.size (.slice a1 n1 c1) l1/\l2.map Prod.fst=(Rf.fil s).2.1/\Mf w' w.heap.size (.slice a2 n2 c2) l2)/\Below w.heap.size w w'
def Bh0(s:ByteArray)(w:TW)(hs:s.size<=maxLen):Calls prog 22 #[.string s] w fun e L=>Bhs s.data.toList w e L:=by
 have f5:=fun w=>Bga s w hs;have h3:=fun f a4=>Sr f (Rf.fil s.data.toList).1 a4;have Y:=Bhj s.data.toList;have Z:=Bjq s.data.toList;unfold Sh at f5;unfold Bhs Rf.formed Rf.nf;generalize Rf.classed s.data.toList=C at *;generalize Rf.fil s.data.toList=l at *;have f6:=Bc f5;clear f5;have f7:=Bf w (O11 none 0 0 none 0 0);have f8:Bl w (w.alloc (O11 none 0 0 none 0 0)):=QN _;by_cases h0:C.1=0
 ·rw[Pf (fun h=>h h0)];have k3:(C.1 != 0)=false:=by simp[h0]
  have H0:=Bc h0;clear h0;generalize hF:Tx (Tr.tree l.1) ((Rf.fieldsTo (Tr.tree l.1) (Rf.given++l.1) l.1.length).length:Int) (l.2.1.map Rf.Mth.m)=F;have HF:=Bc hF;have h4:=Bc h3;have h8:=Bc Y;have h9:=Bc Z;clear hF h3 Y Z;go_in;go_wp2_with fail;refine(Ba f6 _).mono ?_;rintro e Q ⟨z,n1,B,q,n2,D,rfl,i0,Y⟩;obtain⟨f,b,a4,c3,a8,c4⟩:=i0 (Ba H0);obtain⟨xa,xc,b1⟩:=Bg c3.1;simp only[Value.slice.injEq]at b1;obtain⟨rfl,rfl,rfl⟩:=b1;obtain⟨xa,xc,b1⟩:=Bg c4.1;simp only[Value.slice.injEq]at b1;obtain⟨rfl,rfl,rfl⟩:=b1;obtain⟨f9,_,k4⟩:=Ba h4 f a4;have g0:=Ba h8;have g1:=Ba h9;have k5:b.length<=6:=by
   have:(b.map Prod.fst).length<=6:=by rw[a8];exact g1.1
   simpa using this
  -- the file as the functions take it
  have c5:(RFl.mk z B q D (w.alloc (O11 none 0 0 none 0 0)).heap.size f b).ok Q:=by
   refine⟨by simp only;have:=g0.1;omega,Ls,k5,?_,c3,c4⟩;intro p hp;have k6:p.1∈Rf.given++l.1:=by rw[<- a4];exact Bwa hp
   rcases List.mem_append.1 k6 with h|h
   ·simp[Rf.given]at h;rcases h with h|h | h<;>(rw[h];simp)
   exact g0.2 _ h
  have g2:∀p∈b,Rf.MBd p.1:=fun p hp=>g1.2 _ (by rw[<- a8];exact Bwa hp);have i1:(RFl.mk z B q D (w.alloc (O11 none 0 0 none 0 0)).heap.size f b).fields=Rf.fieldsTo (Tr.tree l.1) (Rf.given++l.1) l.1.length:=by
   simp only[RFl.fields];rw[f9,a4,show f.length-7=l.1.length by omega]
  have b2:(RFl.mk z B q D (w.alloc (O11 none 0 0 none 0 0)).heap.size f b).T=Tr.tree l.1:=f9;have i2:(RFl.mk z B q D (w.alloc (O11 none 0 0 none 0 0)).heap.size f b).owners=(l.2.1.map Rf.Mth.m).map Rd.Mth.cl:=by
   simp only[RFl.owners];rw[<- a8];simp
  have g3:l.2.1.map Rf.Mth.m=b.map fun p=>p.1.m:=by rw[<- a8];simp
  have i3:∀(k:Nat) (L:TW) (hk:k<b.length),Bl Q L->Calls prog 57 #[.agg #[.s z f.length B,.s q b.length D],.i (k:Int)] L fun e K=>e=.r (.bool (Ip (Tr.tree l.1) (b.map fun p=>p.1.m) k b[k].1.m))/\Bl L K:=by
   intro k L hk hb;have:=Bmw (RFl.mk z B q D (w.alloc (O11 none 0 0 none 0 0)).heap.size f b) k L (c5.below hb) hk (fun p hp=>(g2 p hp).ps);rw[b2]at this;exact this
  have i4:∀(k:Nat) (L:TW) (hk:k<b.length),Bl Q L->∃(m:RMV) (g:Nat),q=some ⟨g,0,none⟩/\g<L.heap.size/\(∀j v,m.list[j]?=some v->L.C g (k*12+j) v) /\
    ∀K,Bl L K ->
     (Calls prog 58 #[.agg #[.s z f.length B,.s q b.length D],m.val] K fun e w3=>e=.r (.i (Cd.badCode (Tr.tree l.1) ((Rf.fieldsTo (Tr.tree l.1) (Rf.given++l.1) l.1.length).length:Int) ((b.map fun p=>p.1.m).map Rd.Mth.cl) b[k].1.m.locals b[k].1.m.code))/\Bl K w3) /\
     (Calls prog 59 #[.agg #[.s z f.length B,.s q b.length D],m.val] K fun e w3=>e=.r (.i (Cd.firstIx (Cd.hndBad (Tr.tree l.1) b[k].1.m.code) 0 b[k].1.m.handlers))/\Bl K w3) /\
     (Calls prog 60 #[.agg #[.s z f.length B,.s q b.length D],m.val] K fun e w3=>e=.r (.i (Cd.mapsBad (Tr.tree l.1) b[k].1.m.code 0 (-1) b[k].1.m.maps))/\Bl K w3):=by
   intro k L hk hb;obtain⟨m,g,hg,i5,a9,c6⟩:=RFl.mth (c5.below hb) (k:=k) hk;refine⟨m,g,hg,i5,a9,fun K Z=>?_⟩;have c7:=g2 _ (Bvh hk);have b3:=c6.below Z;have i6:=c5.below (QB hb Z);have g4:m.code.size<=100000:=by
    rw[<- Jo,c6.code];exact c7.code
   have i7:=c6.lo;have c8:=c6.code;simp only at i7 c8;refine⟨?_,?_,?_⟩
   ·have:=Bgc (RFl.mk z B q D (w.alloc (O11 none 0 0 none 0 0)).heap.size f b) m K i6 g4;rw[b2,i1,i2,i7,c8,g3]at this;exact this
   ·have:=Bb4 (RFl.mk z B q D (w.alloc (O11 none 0 0 none 0 0)).heap.size f b) m b[k].1.m.handlers K i6 g4 b3.hl c7.hs b3.hs;rw[b2,c8]at this;exact this
   obtain⟨lm,g5,k7⟩:=b3.mp;have i8:m.ml=lm.length:=by rw[b3.ml,<- g5];simp
   have:=Bh3 (RFl.mk z B q D (w.alloc (O11 none 0 0 none 0 0)).heap.size f b) m lm K g4 i8 (by rw[<- i8,b3.ml];exact c7.mp) (fun p hp=>c7.fr _ (by rw[<- g5];exact Bwa hp)) k7;rw[b2,c8,g5]at this;exact this
  have hF:=Ba HF;rw[g3]at hF;clear c5 g2 i1 b2 i2 g3 f9 k4 h4 h8 h9 g0 g1 i0 f6 HF;generalize ((Rf.fieldsTo (Tr.tree l.1) (Rf.given++l.1) l.1.length).length:Int)=nf at *;generalize Tr.tree l.1=T at *;unfold Tx at hF;generalize k8:(b.map fun p=>p.1.m).map Rd.Mth.cl=ow at *;clear k8;have a0:=f8.trans (Y.mono Fr);have i9:=Bk (stay Y f7) (O11 z f.length B q b.length D);have j0:=Bf Q (O11 z f.length B q b.length D);have j1:Bl Q (Q.alloc (O11 z f.length B q b.length D)):=QN _;have a5:=a0.size;generalize j2:Ho T (b.map fun p=>p.1.m) 0 (b.map fun p=>p.1.m)=hr at hF;have a6:Hid (Ho T (b.map fun p=>p.1.m) 0 ((b.map fun p=>p.1.m).drop 0)=hr):=j2;have g6:=Bc hF;have j3:=Bc i3;have k9:=Bc i4;have l0:=Bc c3;have l3:=Bc c4;have l4:=Bc a4;have l5:=Bc a8;clear j2 hF i3 i4 c3 c4 a4 a8 Y f8 f7;go_wp2
  go_loopw [9] (fun v wr=>∃k:Nat,k<=b.length/\v=.i (k:Int)/\Hid (Ho T (b.map fun p=>p.1.m) k ((b.map fun p=>p.1.m).drop k)=hr)/\Bl Q wr/\wr.heap[w.heap.size]?=some (O11 none 0 0 none 0 0)/\wr.heap[Q.heap.size]?=some (O11 z f.length B q b.length D))
   (fun v _=>b.length-(intOf v).toNat)
  case atStart=>exact⟨0,Bd,rfl,a6,j1,i9,j0⟩
  case round=>
   clear a6 j1 i9 j0;obtain⟨k,hk,rfl,a6,I,c,V⟩:=hrel;obtain⟨N,O⟩:=cl2 V;simp at N O;by_cases b4:k<b.length
   ·have hd:(b.map fun p=>p.1.m).drop k=b[k].1.m::(b.map fun p=>p.1.m).drop (k+1):=by
     rw[Wr (by simpa using b4)];simp
    have hq:=Ba a6;rw[hd,Ho]at hq;have hh:=Ba j3 k wr b4 I;generalize Ip T (b.map fun p=>p.1.m) k b[k].1.m=A at *;have HH:=Bc hh;have HQ:=Bc hq;have kb:(k:Int)<(b.length:Int):=Bd;clear hd hq hh a6;go_wp2_with fail;refine Qb (Ba HH) I ?_;intro K Z b5;have b6:=stay Z V;have b0:=stay Z c;clear Z I V c N O;cases A with
    | true =>
     have HG:Hid (Ho T (b.map fun p=>p.1.m) (k+1) ((b.map fun p=>p.1.m).drop (k+1))=hr):=by unfold Hid;rw[<- Ba HQ];simp
     clear HQ;go_wp2;go_roundw
     case rel=>exact⟨k+1,Bd,Lt,HG,b5,b0,b6⟩
     case measure=>simp[intOf];omega
    | false =>
     have j4:hr=(k:Int):=by rw[<- Ba HQ];simp
     have HE:Hid (F=(4,(k:Int),0)):=by unfold Hid;rw[<- Ba g6,j4,Sp Bd]
     have c:=b0;have a3:=a0.trans (b5.mono a5);clear HQ j4 b0 b6;obtain⟨G,t⟩:=cl2 c;obtain⟨q0,q1⟩:=fr2 c;have lr:=Pk c;simp at G t;go_wp2_with fail;refine tb (.tuple #[.agg #[.s none 0 0,.s none 0 0],.i 4,.i (k:Int),.i 0]) (by simp[results,Byi,go_sem,G,t]) ?_;rw[Ba HE];exact⟨none,0,0,none,0,0,rfl,fun h=>absurd h Fr,(a3.setCell Fr _).setCell Fr _⟩
   have j5:hr = -1:=by rw[<- Ba a6,Bvi Fm];rfl
   have a7:Hid (Jy T nf ow 0 ((b.map fun p=>p.1.m).drop 0)=F):=by unfold Hid;rw[<- Ba g6,j5];simp
   have kb:¬(k:Int)<(b.length:Int):=Bd;have b0:=c;have b6:=V;have b5:=I;clear j5 a6 g6 j3 c V I hk;go_wp2
   go_loopw [11] (fun v wr=>∃k:Nat,k<=b.length/\v=.i (k:Int)/\Hid (Jy T nf ow k ((b.map fun p=>p.1.m).drop k)=F)/\Bl Q wr/\wr.heap[w.heap.size]?=some (O11 none 0 0 none 0 0)/\wr.heap[Q.heap.size]?=some (O11 z f.length B q b.length D))
    (fun v _=>b.length-(intOf v).toNat)
   case atStart=>exact⟨0,Bd,rfl,a7,b5,b0,b6⟩
   case round=>
    clear a7 b5 b0 b6 N O kb;obtain⟨k,hk,rfl,a7,I,c,V⟩:=hrel;obtain⟨N,O⟩:=cl2 V;simp at N O;have lF:=Pk V;have lR:=Pk c;have c9:=I.size;by_cases b4:k<b.length
    ·obtain⟨m,g,hg,i5,a9,g7⟩:=Ba k9 k wr b4 I;replace a9:=Ua a9;have hd:(b.map fun p=>p.1.m).drop k=b[k].1.m::(b.map fun p=>p.1.m).drop (k+1):=by
      rw[Wr (by simpa using b4)];simp
     have hq:=Ba a7;rw[hd,Jy,Ou]at hq;generalize Cd.badCode T nf ow b[k].1.m.locals b[k].1.m.code=bc at *;generalize Cd.firstIx (Cd.hndBad T b[k].1.m.code) 0 b[k].1.m.handlers=bh at *;generalize Cd.mapsBad T b[k].1.m.code 0 (-1) b[k].1.m.maps=J at *;obtain⟨cl,nm,pa,pl,pc,t,r2,lo,st,d0,ha,hl,hc,ma,ml,mc,d1,d2⟩:=m;simp only[RMV.val]at a9 g7;obtain⟨y0,y1,y2,y3,y4,y5,y6,y7,y8,y9,l6,l7⟩:=a9;have kb:(k:Int)<(b.length:Int):=Bd;have g8:=Bc g7;have HQ:=Bc hq;have g9:Bl wr (wr.alloc (O12 cl nm pa pl pc t r2 lo st d0 ha hl hc ma ml mc d1 d2)):=QN _;have j6:=Bf wr (O12 cl nm pa pl pc t r2 lo st d0 ha hl hc ma ml mc d1 d2);have j7:=Bk V (O12 cl nm pa pl pc t r2 lo st d0 ha hl hc ma ml mc d1 d2);have j8:=Bk c (O12 cl nm pa pl pc t r2 lo st d0 ha hl hc ma ml mc d1 d2);clear hd hq g7 a7;subst hg;go_wp2_with fail;refine(Ba g8 _ g9).1.mono ?_;rintro e w3 ⟨rfl,b7⟩;have d3:=g9.trans (b7.mono Fr);have d4:=stay b7 j6;have d5:=stay b7 j7;have d6:=stay b7 j8;clear b7 g9 j6 j7 j8 V c N O y0 y1 y2 y3 y4 y5 y6 y7 y8 y9 l6 l7;have j9:=a0.trans ((I.trans (d3.mono c9)).mono a5);by_cases h5:0<=bc
     ·have HE:Hid (F=(5,(k:Int),bc)):=by unfold Hid;rw[<- Ba HQ];simp[h5]
      have c:=d6;have a3:=j9;clear HQ d6 d5 d4;obtain⟨G,t⟩:=cl2 c;obtain⟨q0,q1⟩:=fr2 c;have lr:=Pk c;simp at G t;go_wp2_with fail;refine tb (.tuple #[.agg #[.s none 0 0,.s none 0 0],.i 5,.i (k:Int),.i bc]) (by simp[results,Byi,go_sem,G,t]) ?_;rw[Ba HE];exact⟨none,0,0,none,0,0,rfl,fun h=>absurd h Fr,(a3.setCell Fr _).setCell Fr _⟩
     have d7:Hid ((if (if 0<=bh then ((6:Int),bh) else if 0<=J then (7,J) else (0,0)).1≠0 then ((if 0<=bh then ((6:Int),bh) else if 0<=J then (7,J) else (0,0)).1,(k:Int),(if 0<=bh then ((6:Int),bh) else if 0<=J then (7,J) else (0,0)).2) else Jy T nf ow (k+1) ((b.map fun p=>p.1.m).drop (k+1)))=F):=by
      unfold Hid;have:=Ba HQ;rw[Pf h5]at this;exact this
     obtain⟨m0,m1,m2,m3,m4,m5,m6,m7,m8,m9,b8,b9⟩:=Ia d4;simp at m0 m1 m2 m3 m4 m5 m6 m7 m8 m9 b8 b9;obtain⟨N,O⟩:=cl2 d5;simp at N O;clear HQ;go_wp2_with fail;refine(Ba g8 _ d3).2.1.mono ?_;rintro e w4 ⟨rfl,c0⟩;have d8:=QB d3 c0;have h1:=stay c0 d4;have d9:=stay c0 d5;have f2:=stay c0 d6;clear c0 d3 d4 d5 d6 N O m0 m1 m2 m3 m4 m5 m6 m7 m8 m9 b8 b9 j9;have k0:=a0.trans ((I.trans (d8.mono c9)).mono a5);by_cases h6:0<=bh
     ·have HE:Hid (F=(6,(k:Int),bh)):=by unfold Hid;rw[<- Ba d7];simp[h6]
      have c:=f2;have a3:=k0;clear d7 f2 d9 h1;obtain⟨G,t⟩:=cl2 c;obtain⟨q0,q1⟩:=fr2 c;have lr:=Pk c;simp at G t;go_wp2_with fail;refine tb (.tuple #[.agg #[.s none 0 0,.s none 0 0],.i 6,.i (k:Int),.i bh]) (by simp[results,Byi,go_sem,G,t]) ?_;rw[Ba HE];exact⟨none,0,0,none,0,0,rfl,fun h=>absurd h Fr,(a3.setCell Fr _).setCell Fr _⟩
     have f3:Hid ((if (if 0<=J then ((7:Int),J) else (0,0)).1≠0 then ((if 0<=J then ((7:Int),J) else (0,0)).1,(k:Int),(if 0<=J then ((7:Int),J) else (0,0)).2) else Jy T nf ow (k+1) ((b.map fun p=>p.1.m).drop (k+1)))=F):=by
      unfold Hid;have:=Ba d7;rw[Pf h6]at this;exact this
     obtain⟨m0,m1,m2,m3,m4,m5,m6,m7,m8,m9,b8,b9⟩:=Ia h1;simp at m0 m1 m2 m3 m4 m5 m6 m7 m8 m9 b8 b9;obtain⟨N,O⟩:=cl2 d9;simp at N O;clear d7;go_wp2_with fail;refine(Ba g8 _ d8).2.2.mono ?_;rintro e w5 ⟨rfl,f4⟩;have k1:=QB d8 f4;have k2:=stay f4 d9;have h2:=stay f4 f2;clear f4 d8 h1 d9 f2 N O m0 m1 m2 m3 m4 m5 m6 m7 m8 m9 b8 b9 k0;by_cases h7:0<=J
     ·have HE:Hid (F=(7,(k:Int),J)):=by unfold Hid;rw[<- Ba f3];simp[h7]
      have c:=h2;have a3:=a0.trans ((I.trans (k1.mono c9)).mono a5);clear f3 h2 k2;obtain⟨G,t⟩:=cl2 c;obtain⟨q0,q1⟩:=fr2 c;have lr:=Pk c;simp at G t;go_wp2_with fail;refine tb (.tuple #[.agg #[.s none 0 0,.s none 0 0],.i 7,.i (k:Int),.i J]) (by simp[results,Byi,go_sem,G,t]) ?_;rw[Ba HE];exact⟨none,0,0,none,0,0,rfl,fun h=>absurd h Fr,(a3.setCell Fr _).setCell Fr _⟩
     have HG:Hid (Jy T nf ow (k+1) ((b.map fun p=>p.1.m).drop (k+1))=F):=by unfold Hid;rw[<- Ba f3];simp[h7]
     have l8:=I.trans (k1.mono c9);clear f3;go_wp2;go_roundw
     case rel=>exact⟨k+1,Bd,Lt,HG,l8,h2,k2⟩
     case measure=>simp[intOf];omega
    have HE:Hid (F=(0,0,0)):=by unfold Hid;rw[<- Ba a7,Bvi Fm];rfl
    have kb:¬(k:Int)<(b.length:Int):=Bd;have a3:=a0.trans (I.mono a5);obtain⟨G,t⟩:=cl2 c;obtain⟨q0,q1⟩:=fr2 c;simp at G t;clear a7;go_wp2_with fail;refine tb (.tuple #[.agg #[.s z f.length B,.s q b.length D],.i 0,.i 0,.i 0]) (by simp[results,Byi,go_sem,G,t]) ?_;rw[Ba HE];refine⟨z,f.length,B,q,b.length,D,rfl,fun _=>⟨f,Ba l4,?_,b,Ba l5,?_⟩,(a3.setCell Fr _).setCell Fr _⟩
    ·exact(((Ba l0).kp (Kp.of_below (e:=none) I) Ck Ck).kp (Kp.set2 c _ _) Ck Ck).mono Fr
    exact(((Ba l3).kp (Kp.of_below (e:=none) I) Ck Ck Ck Ck).kp (Kp.set2 c _ _) Ck Ck Ck Ck).mono Fr
 rw[Sp h0];have k3:(C.1 != 0)=true:=by simp[h0]
 have H0:=Bc h0;clear h0;go_in;go_wp2_with fail;refine(Ba f6 _).mono ?_;rintro e Q ⟨z,n1,B,q,n2,D,rfl,_,Y⟩;have a0:=f8.trans (Y.mono Fr);have R1:=Bk (stay Y f7) (O11 z n1 B q n2 D);obtain⟨G,t⟩:=cl2 R1;obtain⟨N,O⟩:=fr2 R1;have lr:=Pk R1;have a5:=a0.size;simp at G t lr;go_wp2_with fail;refine tb (.tuple #[.agg #[.s none 0 0,.s none 0 0],.i C.1,.i C.2,.i 0]) (by simp[results,Byi,go_sem,G,t]) ?_;exact⟨none,0,0,none,0,0,rfl,fun h=>absurd h (Ba H0),((a0.alloc a5 _).setCell Fr _).setCell Fr _⟩
structure Cd.Ins where
 place:Int
 op:Int
 n:Int
def Cd.insAt(c:TI)(p:Nat):Cd.Ins:=⟨(p:Int),c.getD p 0,if Cd.wd (c.getD p 0)=2 then c.getD (p+1) 0 else 0⟩
def Lz (l:List Cd.Ins):List Value:=l.flatMap fun x=>[.int .i64 x.place,.int .i64 x.op,.int .i64 x.n]
def Biq(l:List Cd.Ins)(x:Cd.Ins):Lz (l++[x])=Lz l++[.i x.place,.i x.op,.i x.n]:=by simp[Lz]
def Hs (w:TW)(b:Nat)(v:TX)(l:List Cd.Ins):Prop:=w.ownsRow b 219 3 v l.length (Lz l)
def Hs.kp{e:Option TypeId}{i:TX}{l:List Cd.Ins}{b:TW}(h:Hs w u i l)(c:Kp e u w b)(f:some 219≠e):Hs b u i l:=Cx h c f
def Tryz.infoIns:(prog.info? 219).map (fun i=>(i.zero,i.size,i.bytes))=some (some (.agg #[.i 0,.i 0,.i 0]),3,24):=Le
def W4(l:List Cd.Ins)(k:Nat)(h:k<l.length):(Lz l)[k*3]?=some (.i l[k].place)/\(Lz l)[k*3+1]?=some (.i l[k].op)/\(Lz l)[k*3+2]?=some (.i l[k].n)/\k*3+2<(Lz l).length:=by
 induction l generalizing k with
 | nil=>simp at h
 | cons x r ih =>
  have e:Lz (x::r)=.i x.place::.i x.op::.i x.n::Lz r:=by simp[Lz]
  cases k with
  | zero=>rw[e];simp
  | succ j =>
   obtain⟨p,q,z,y⟩:=ih j (by simpa using h);rw[e,show (j+1)*3=j*3+1+1+1 by omega];refine⟨by simpa using p,by simpa using q,by simpa using z,Fm⟩
def Bg8(op:Int)(w:TW):Calls prog 217 #[.i op] w fun e b=>e=.r (.bool (Cd.wd op==2))/\b=w:=by
 unfold Cd.wd;by_cases h:op=0\/op=2\/op=3\/(11<=op/\op<=21)
 ·rw[Sp h];have c:op=0\/op=2\/op=3\/op=11\/op=12\/op=13\/op=14\/op=15\/op=16\/op=17\/op=18\/op=19\/op=20\/op=21:=Bd;rcases c with rfl|rfl|rfl|rfl|rfl|rfl|rfl|rfl|rfl|rfl|rfl|rfl|rfl|rfl
  all_goals
   go_in;go_wp2;go_ret;exact⟨rfl,rfl⟩
 rw[Pf h];have f:(op==0)=false:=Fm;have g:(op==2)=false:=Fm;have j:(op==3)=false:=Fm;have l:(op==11)=false:=Fm;have m:(op==12)=false:=Fm;have p:(op==13)=false:=Fm;have q:(op==14)=false:=Fm;have s:(op==15)=false:=Fm;have t:(op==16)=false:=Fm;have v:(op==17)=false:=Fm;have z:(op==18)=false:=Fm;have A:(op==19)=false:=Fm;have B:(op==20)=false:=Fm;have C:(op==21)=false:=Fm;go_in;go_wp2;go_ret;exact⟨rfl,rfl⟩
def W7(p:Nat)(op n:Int)(w:TW)(g:p<=100000):Calls prog 164 #[.agg #[.i (p:Int),.i op,.i n]] w fun e c=>e=.r (.i ((p+Cd.wd op:Nat):Int))/\Bl w c:=by
 have b:=fun w=>Bg8 op w;rcases(show Cd.wd op=1\/Cd.wd op=2 by have:=Cd.wd_bd op;omega) with h|h
 all_goals
  rw[h]at b ⊢;have f:=Bc b;go_in;go_wp2_with fail;refine Qm (Ba f _) ?_;rintro j rfl;go_wp2;go_ret;exact⟨Fr,QN _⟩
def Cd.findAt(place:Int):List Cd.Ins->Option Cd.Ins
 | []=>none
 | x::r=>if x.place=place then some x else Cd.findAt place r
def Cd.orZero:Option Cd.Ins->Cd.Ins
 | some x=>x
 | none=>⟨0,0,0⟩
def Bdi(l:List Cd.Ins)(a:TA)(G Y:Nat)(b:Int)(w:TW)(hl:l.length<=100000)(Z:Hs w Y (.s a l.length G) l):Calls prog 287 #[.s a l.length G,.i b] w fun e w' => e=.r (.tuple #[.agg #[.i (Cd.orZero (Cd.findAt b l)).place,.i (Cd.orZero (Cd.findAt b l)).op,.i (Cd.orZero (Cd.findAt b l)).n],.bool (Cd.findAt b l).isSome])/\Bl w w':=by
 generalize f:Cd.findAt b l=r;have h:Hid (Cd.findAt b (l.drop 0)=r):=f;clear f;have I:Bl w (w.alloc (O15 0 0 0)):=QN _;have J:=Bf w (O15 0 0 0);go_in;go_wp2
 go_loopw [10] (fun v wr=>∃k:Nat,k<=l.length/\v=.i (k:Int)/\Hid (Cd.findAt b (l.drop k)=r)/\Bl w wr/\wr.heap[w.heap.size]?=some (O15 0 0 0))
  (fun v _=>l.length-(intOf v).toNat)
 case atStart=>exact⟨0,Bd,rfl,h,I,J⟩
 case round=>
  clear I J h;obtain⟨k,hk,rfl,h,p,j⟩:=hrel;have a0:=p.size;by_cases K:k<l.length
  ·obtain⟨g,hg,a4,_,D⟩:=Cf (Z.kp (Kp.of_below (e:=none) p) Ck) Bd;obtain⟨L,N,O,t4⟩:=W4 l k K;have u0:=(D (k*3) Bd).trans L;have u1:=(D (k*3+1) Bd).trans N;have u2:=(D (k*3+2) Bd).trans O;have Q:l.drop k=l[k]::l.drop (k+1):=Wr K;have f:=Ba h;rw[Q,Cd.findAt]at f;generalize l[k]=x at *;obtain⟨c,q,t⟩:=x;simp only at u0 u1 u2 f;have kb:(k:Int)<(l.length:Int):=Bd;have CX:=Bf wr (O15 c q t);have a1:=Bk j (O15 c q t);have a2:=p.alloc a0 (O15 c q t);have F:=Bc f;clear Q f h D L N O t4;subst hg;by_cases m:c=b
   ·have a3:(c==b)=true:=by simp[m]
    have z:Hid (r=some ⟨c,q,t⟩):=by unfold Hid;rw[<- Ba F,Sp m]
    obtain⟨A,B,C⟩:=cl3 j;obtain⟨q0,q1,q2⟩:=fr3 j;have lr:=Pk j;simp at A B C;clear m F;go_wp2_with fail;refine tb (.tuple #[.agg #[.i c,.i q,.i t],.bool true]) (by simp[results,results287,go_sem,A,B,C,lr]) ?_;rw[Ba z];exact⟨rfl,by repeat (first|refine Bvq ?_ Fr _|refine Bwu ?_ (by first|omega|(simp;omega)) _|exact p)⟩
   have a3:(c==b)=false:=by simp[m]
   have z:Hid (Cd.findAt b (l.drop (k+1))=r):=by unfold Hid;rw[<- Ba F,Pf m]
   clear m F;go_wp2;go_roundw
   case rel=>exact⟨k+1,Bd,Lt,z,a2,a1⟩
   case measure=>simp[intOf];omega
  have V:r=none:=by rw[<- Ba h,Bvi Bd];rfl
  have z:=Bc V;obtain⟨A,B,C⟩:=cl3 j;obtain⟨q0,q1,q2⟩:=fr3 j;have kb:¬(k:Int)<(l.length:Int):=Bd;simp at A B C;clear V h;go_wp2_with fail;refine tb (.tuple #[.agg #[.i 0,.i 0,.i 0],.bool false]) (by simp[results,results287,go_sem,A,B,C]) ?_;rw[Ba z];exact⟨rfl,((p.setCell Fr _).setCell Fr _).setCell Fr _⟩
def Xn(l:List Cd.Ins)(a:TA)(c f:Nat)(b:Int)(w:TW)(h:l.length<=100000)(j:Hs w f (.s a l.length c) l):Calls prog 255 #[.s a l.length c,.i b] w fun e m=>e=.r (.bool (Cd.findAt b l).isSome)/\Bl w m:=by
 have p:=Bdi l a c f b w h j;generalize Cd.findAt b l=r at *;have q:=Bc p;go_in;go_wp2_with fail;refine Qm (Ba q) ?_;intro t g;go_wp2;go_ret;exact⟨rfl,g.alloc g.size _⟩
def Bli(l:List Cd.Ins)(a:TA)(f g:Nat)(b:Int)(w:TW)(j:l.length<=100000)(m:Hs w g (.s a l.length f) l):Calls prog 304 #[.s a l.length f,.i b] w fun e p=>e=.r (.bool ((Cd.findAt b l).isSome&&((Cd.orZero (Cd.findAt b l)).op==15)))/\Bl w p:=by
 have q:=Bdi l a f g b w j m;generalize Cd.findAt b l=r at *;have h:=Bc q;cases r with
 | none =>
  go_in;go_wp2_with fail;refine Qm (Ba h) ?_;intro t c;go_wp2;go_ret;exact⟨rfl,c.alloc c.size _⟩
 | some x =>
  go_in;go_wp2_with fail;refine Qm (Ba h) ?_;intro t c;go_wp2;go_ret;exact⟨rfl,c.alloc c.size _⟩
def Cd.insts(c:TI):List Cd.Ins:=(Cd.places c).map (Cd.insAt c)
def Cd.readL(c:TI):List Cd.Ins:=if 0<=Cd.unread c then [] else Cd.insts c
def Cd.readP(c:TI):Int:=if 0<=Cd.unread c then Cd.unread c else 0
def Cd.readB(c:TI):Bool:=decide (Cd.unread c<0)
def Cd.one(c:TI)(p:Nat):Option Cd.Ins:=if p<c.length/\c.getD p 0<=25/\p+Cd.wd (c.getD p 0)<=c.length then some (Cd.insAt c p) else none
def Bh9:Cd.orZero none=⟨0,0,0⟩:=rfl
theorem Bho(c:List Int)(a:Option Addr)(C F p:Nat)(w:World)(N:c.length<=1000)(O:p<=100000)(j:∀x∈c,0<=x)(l:Du w F (.slice a c.length C) c):Calls prog 163 #[.slice a c.length C,.int .i64 (p:Int)] w fun e G => e=.returned (.tuple #[.agg #[.int .i64 (Cd.orZero (Cd.one c p)).place,.int .i64 (Cd.orZero (Cd.one c p)).op,.int .i64 (Cd.orZero (Cd.one c p)).n],.bool (Cd.one c p).isSome])/\Below w.heap.size w G:=by
 generalize b:Cd.one c p=r;unfold Cd.one at b;have Q:¬(p:Int)<0:=Bd;by_cases v:p<c.length
 ·obtain⟨g,z,V,_,m⟩:=Cf l Bd;have Y:w.cell? ⟨g,p,none⟩=some (.int .i64 (c.getD p 0)):=by
   rw[m p (by simpa using v),Bv8,Th,Ws v];rfl
  have A:0<=c.getD p 0:=by
   rw[Th,Ws v];exact j _ (Bvh v)
  have s:p+1<c.length->w.cell? ⟨g,p+1,none⟩=some (.int .i64 (c.getD (p+1) 0)):=by
   intro h;rw[m (p+1) (by simpa using h),Bv8,Th,Ws h];rfl
  have q:Cd.insAt c p=⟨(p:Int),c.getD p 0,if Cd.wd (c.getD p 0)=2 then c.getD (p+1) 0 else 0⟩:=rfl
  have B:=Cd.wd_bd (c.getD p 0);have I:(p:Int)<(c.length:Int):=Bd;have Z:¬c.getD p 0<0:=Bd;by_cases a0:25<c.getD p 0
  ·have f:Hid (r=none):=by unfold Hid;rw[<- b,Pf Bd]
   generalize c.getD p 0=op at *;clear b q m s A j l;subst z;go_in;go_wp2;refine tb (.tuple #[.agg #[.int .i64 0,.int .i64 0,.int .i64 0],.bool false]) (by simp[results,Byt,go_sem]) ?_;rw[Ba f];exact⟨rfl,by first|exact Bx _ _ _|exact QN _⟩
  have i:=fun w=>Bg8 (c.getD p 0) w;rcases(show Cd.wd (c.getD p 0)=1\/Cd.wd (c.getD p 0)=2 by omega) with hw|hw
  ·have f:Hid (r=some ⟨(p:Int),c.getD p 0,0⟩):=by
    unfold Hid;rw[<- b,Sp Bd,q,hw];rfl
   rw[hw]at i;generalize c.getD p 0=op at *;have t:=Bc i;clear b q m s A j l i hw B;subst z;go_in;go_wp2_with fail;refine(Ba t _).mono ?_;rintro e D ⟨rfl,rfl⟩;go_wp2;refine tb (.tuple #[.agg #[.int .i64 (p:Int),.int .i64 op,.int .i64 0],.bool true]) (by simp[results,Byt,go_sem]) ?_;rw[Ba f];exact⟨rfl,by first|exact Bx _ _ _|exact QN _⟩
  by_cases J:p+1<c.length
  ·have f:Hid (r=some ⟨(p:Int),c.getD p 0,c.getD (p+1) 0⟩):=by
    unfold Hid;rw[<- b,Sp Bd,q,hw];rfl
   have y2:=s J;have K:(p:Int)+1<(c.length:Int):=Bd;rw[hw]at i;generalize c.getD (p+1) 0=L at *;generalize c.getD p 0=op at *;have t:=Bc i;clear b q m s A j l i hw B;subst z;go_in;go_wp2_with fail;refine(Ba t _).mono ?_;rintro e D ⟨rfl,rfl⟩;go_wp2;refine tb (.tuple #[.agg #[.int .i64 (p:Int),.int .i64 op,.int .i64 L],.bool true]) (by simp[results,Byt,go_sem]) ?_;rw[Ba f];exact⟨rfl,by first|exact Bx _ _ _|exact QN _⟩
  have f:Hid (r=none):=by unfold Hid;rw[<- b,Pf Bd]
  have K:¬(p:Int)+1<(c.length:Int):=Bd;rw[hw]at i;generalize c.getD p 0=op at *;have t:=Bc i;clear b q m s A j l i hw B;subst z;go_in;go_wp2_with fail;refine(Ba t _).mono ?_;rintro e D ⟨rfl,rfl⟩;go_wp2;refine tb (.tuple #[.agg #[.int .i64 0,.int .i64 0,.int .i64 0],.bool false]) (by simp[results,Byt,go_sem]) ?_;rw[Ba f];exact⟨rfl,by first|exact Bx _ _ _|exact QN _⟩
 have f:Hid (r=none):=by unfold Hid;rw[<- b,Pf Bd]
 have I:¬(p:Int)<(c.length:Int):=Bd;clear b j l;go_in;go_wp2;refine tb (.tuple #[.agg #[.int .i64 0,.int .i64 0,.int .i64 0],.bool false]) (by simp[results,Byt,go_sem]) ?_;rw[Ba f];exact⟨rfl,by first|exact Bx _ _ _|exact QN _⟩
def Ap(c:TI)(a:TA)(N bb:Nat)(w:TW)(hl:c.length<=1000)(h0:∀x∈c,0<=x)(hi:Du w bb (.s a c.length N) c):Calls prog 108 #[.s a c.length N] w fun e C => ∃va vc,e=.r (.tuple #[.s va (Cd.readL c).length vc,.i (Cd.readP c),.bool (Cd.readB c)])/\Hs C w.heap.size (.s va (Cd.readL c).length vc) (Cd.readL c)/\Bl w C:=by
 obtain⟨i0,b6,b7,b8,b9⟩:=Bv4 Tryz.infoIns;have O:Cd.unread c=Cd.first (Cd.noRead c) (Cd.starts c c.length 0):=rfl
 generalize G:Cd.unread c=U at O;have hL:Cd.readL c=if 0<=U then [] else Cd.insts c:=by unfold Cd.readL;rw[G]
 have hP:Cd.readP c=if 0<=U then U else 0:=by unfold Cd.readP;rw[G]
 have a2:Cd.readB c=decide (U<0):=by unfold Cd.readB;rw[G]
 generalize Cd.readL c=L at *;generalize Cd.readP c=P at *;generalize Cd.readB c=B at *;have HL:=Bc hL;have HP:=Bc hP;have a3:=Bc a2;have l:Hid (Cd.first (Cd.noRead c) (Cd.starts c c.length 0)=U):=O.symm
 have m:Hid (([]:List Nat)++Cd.starts c c.length 0=Cd.places c):=rfl;have H0:=Bc h0;clear hL hP a2 G O h0;go_in;go_wp2
 go_loopw [5,6] (fun u v wr=>∃(p k:Nat) (done:List Nat),v=.i (p:Int)/\c.length<=p+k/\p<=2000/\done.length<=p/\wr.ownsRow w.heap.size 219 3 u done.length (Lz (done.map (Cd.insAt c))) /\
   Hid (done++Cd.starts c k p=Cd.places c)/\Hid (Cd.first (Cd.noRead c) (Cd.starts c k p)=U)/\Bl w wr)
  (fun _ v _=>c.length-(intOf v).toNat)
 case atStart=>exact⟨0,c.length,[],rfl,Bd,Bd,Fr,Bvl _ _ _ _,m,l,Vm _ _⟩
 case round=>
  clear l m;obtain⟨p,k,done,rfl,hk,d4,d5,I,m,l,q⟩:=hrel;obtain⟨ua,uc,rfl⟩:=Bg I;have a4:=q.size;by_cases a5:p<c.length
  ·obtain⟨j,rfl,hj,Q⟩:=Cd.starts_go (c:=c) (k:=k) (p:=p) a5 hk;have b:=Ba l;have f:=Ba m;rw[Q]at b f;rw[Cd.first]at b
   have d6:=Cd.wd_bd (c.getD p 0);have g:=fun C (hb:Bl w C)=>Bho c a N bb p C hl Bd (Ba H0) (hi.kp (Kp.of_below (e:=none) hb) Ck);have J:Cd.noRead c p=(decide (25<c.getD p 0)||decide (c.length<p+Cd.wd (c.getD p 0))):=rfl;have kb:(p:Int)<(c.length:Int):=Bd;by_cases a6:c.getD p 0<=25/\p+Cd.wd (c.getD p 0)<=c.length
   ·have D:Cd.one c p=some (Cd.insAt c p):=by unfold Cd.one;rw[Sp ⟨a5,a6⟩]
    have a7:=fun n w=>W7 p (c.getD p 0) n w Bd;have c0:Hid (Cd.first (Cd.noRead c) (Cd.starts c j (p+Cd.wd (c.getD p 0)))=U):=by
     unfold Hid;rw[<- b,J,Bwx (show ¬25<c.getD p 0 by omega),Bwx (show ¬c.length<p+Cd.wd (c.getD p 0) by omega)];rw[Pf Ck]
    have c6:Hid ((done++[p])++Cd.starts c j (p+Cd.wd (c.getD p 0))=Cd.places c):=by unfold Hid;rw[<- f];simp
    have t:Hid (Lz ((done++[p]).map (Cd.insAt c))=Lz (done.map (Cd.insAt c))++[.i (Cd.insAt c p).place,.i (Cd.insAt c p).op,.i (Cd.insAt c p).n]):=by
     unfold Hid;rw[Bvx,List.map_singleton,Biq]
    have V:(Cd.insAt c p).place=(p:Int):=rfl;have Y:(Cd.insAt c p).op=c.getD p 0:=rfl;rw[D]at g;simp only[Cd.orZero,Option.isSome_some]at g;rw[V,Y]at g;unfold Hid at t;rw[V,Y]at t;have t:=Bc t;generalize (Cd.insAt c p).n=Z at *;generalize Cd.wd (c.getD p 0)=c7 at *;generalize c.getD p 0=op at *;have a0:=Bc g;have c8:=Bc a7;clear g a7 b f J Q l m V Y D;go_wp2_with fail;refine Qm (Ba a0 _ q) ?_;intro F z;have A:=q.trans (z.mono a4);have K:=Cx I (Kp.of_below (e:=none) z) Ck;have a8:=A.size;clear z I;go_wp2_with (at_builtin;refine Bvw _ rfl _ _ 179 rfl w.heap.size 219 i0 _ 3 24 underlying179 b6 b7 b8 b9 rfl Ck _ _ _ rfl ((K.alloc _).alloc _) ⟨F.heap.size+1,0,none⟩ 1 1 [.i (p:Int),.i op,.i Z] rfl rfl ?c1 ?c2 ?c3 ?c4 ?c5 ?_)
    case c1=>exact Dv _ _ _ _ Fr
    case c2=>intro u b;simp at b;rcases b with rfl|rfl|rfl<;>rfl
    case c3=>unfold maxLen;omega
    case c4=>omega
    case c5=>simp;omega
    intro v' w2 a9 a1 _;have hX:w2.heap[F.heap.size]?=some (O15 (p:Int) op Z):=by
     rw[a1.block F.heap.size Fm (fun h=>by have:=(K.lt _ h.symm).2;omega),Bvu _ _ _ Fr];exact Bf F _
    have b0:w2.ownsRow w.heap.size 219 3 v' (done++[p]).length (Lz ((done++[p]).map (Cd.insAt c))):=by
     rw[Ba t,Up];exact a9
    have b1:=((A.alloc a8 _).alloc Fm _).grown a1 Fm (fun j hj=>(K.lt j hj).1);obtain⟨x0,x1,x2⟩:=cl3 hX;simp at x0 x1 x2;clear a1 K a9 A q hX t;go_wp2_with fail;refine Qb (Ba c8 Z _) b1 ?_;intro w3 b2 c9;have d0:=Cx b0 (Kp.of_below (e:=none) b2) Ck;clear b2 b1 b0 x0 x1 x2;go_wp2;go_roundw
    case rel=>exact⟨p+c7,j,done++[p],rfl,Bd,Bd,Fm,d0,c6,c0,c9⟩
    case measure=>simp[intOf];omega
   have D:Cd.one c p=none:=by unfold Cd.one;rw[Pf (fun h=>a6 h.2)]
   have HF:Hid (U=(p:Int)):=by
    unfold Hid;rw[<- b,J];by_cases d1:25<c.getD p 0;·rw[Bxp d1,Bool.true_or,Sp rfl]
    rw[Bxp (show c.length<p+Cd.wd (c.getD p 0) by omega),Bool.or_true,Sp rfl]
   rw[D]at g;simp only[Bh9,Bzp]at g;have a0:=Bc g;clear g b f J Q l m D;go_wp2_with fail;refine Qm (Ba a0 _ q) ?_;intro F z;have A:=q.trans (z.mono a4);have a8:=A.size;clear z;go_wp2;refine tb (.tuple #[.s none 0 0,.i (p:Int),.bool false]) (by simp[results,results108,go_sem]) ?_;have b3:(0:Int)<=(p:Int):=Bd;rw[Ba HL,Ba HP,Ba a3,Ba HF,Sp b3,Sp b3];exact⟨none,0,Fr,Bvl _ _ _ _,by repeat (first|refine By2 ?_|refine Bwu ?_ (by first|omega|(simp;omega)) _|exact A)⟩
  have b:=Ba l;have f:=Ba m;rw[Cd.starts_end Bd]at b f;have b4:U = -1:=by rw[<- b];rfl
  rw[Bxl]at f;have d2:=Bc b4;have d3:=Bc f;have kb:¬(p:Int)<(c.length:Int):=Bd;clear b f b4 l m;go_wp2;refine tb (.tuple #[.s ua done.length uc,.i 0,.bool true]) (by simp[results,results108,go_sem]) ?_;have b5:¬(0:Int)<=-1:=Bd;rw[Ba HL,Ba HP,Ba a3,Ba d2,Pf b5,Pf b5];unfold Cd.insts;rw[<- Ba d3];exact⟨ua,uc,Fr,by unfold Hs;simpa using I,q⟩
namespace Cd
def Beu(c:TI)(b:Int)(e:List Nat):(findAt b (e.map (insAt c))).isSome=e.any fun p=>(p:Int)==b:=by
 induction e with
 | nil=>rfl
 | cons p r ih =>
  rw[Bwm,findAt,Byb];by_cases h:(insAt c p).place=b
  ·rw[Sp h];have:((p:Int)==b)=true:=by simpa[insAt] using h
   rw[this];rfl
  rw[Pf h,ih];have:((p:Int)==b)=false:=by simpa[insAt] using h
  rw[this];rfl
def find_beg(c:TI)(b:Int):(findAt b (insts c)).isSome=begB c b:=Beu c b (places c)
def find_at(c:TI)(b:Int)(e:List Nat)(h:(findAt b (e.map (insAt c))).isSome=true):(orZero (findAt b (e.map (insAt c))))=insAt c b.toNat/\0<=b:=by
 induction e with
 | nil=>simp[findAt]at h
 | cons p r ih =>
  rw[Bwm,findAt]at h ⊢;by_cases f:(insAt c p).place=b;·rw[Sp f];have:(p:Int)=b:=f;subst this;exact⟨by simp[orZero],Bd⟩
  rw[Pf f]at h ⊢;exact ih h
def Bq0(c:TI)(b:Int):((findAt b (insts c)).isSome&&((orZero (findAt b (insts c))).op==15))=(begB c b&&(c.getD b.toNat 0==15)):=by
 rw[find_beg];cases h:begB c b with
 | false=>rfl
 | true =>
  have:=(find_at c b (places c) (by rw[Beu];exact h)).1;unfold insts;rw[this];rfl
end Cd
structure PBd where
 fa1:Option Addr
 fl1:Nat
 fc1:Nat
 fa2:Option Addr
 fl2:Nat
 fc2:Nat
 tg:Nat
 tc:Nat
 ya:Option Addr
 yn:Nat
 yc:Nat
 cl:Int
 nm:Int
 pa:Option Addr
 pl:Nat
 pc:Nat
 r1:Int
 r2:Int
 lo:Int
 st:Int
 ca:Option Addr
 cn:Nat
 cc:Nat
 ha:Option Addr
 hl:Nat
 hc:Nat
 ma:Option Addr
 ml:Nat
 mc:Nat
 la:Option Addr
 lc:Nat
 T:List Int
 L:List Cd.Ins
def PBd.val(b:PBd):Value:=.agg #[.slice b.fa1 b.fl1 b.fc1,.slice b.fa2 b.fl2 b.fc2,.slice (some ⟨b.tg,0,none⟩) b.T.length b.tc,.slice b.ya b.yn b.yc,.int .i64 b.cl,.int .i64 b.nm,.slice b.pa b.pl b.pc,.int .i64 b.r1,.int .i64 b.r2,.int .i64 b.lo,.int .i64 b.st,.slice b.ca b.cn b.cc,.slice b.ha b.hl b.hc,.slice b.ma b.ml b.mc,.slice b.la b.L.length b.lc]
def PBd.ok(b:PBd)(w:TW)(bb:Nat):Prop:=b.T.length<=1000/\b.L.length<=100000/\Dl w b.tg b.T/\Hs w bb (.slice b.la b.L.length b.lc) b.L
def PBd.ok.below{c:PBd}{b:TW}(h:c.ok w u)(f:Bl w b):c.ok b u :=
 ⟨h.1,h.2.1,h.2.2.1.below f,h.2.2.2.kp (Kp.of_below (e:=none) f) Ck⟩
def Cd.mapTy(T:TI)(L:List Cd.Ins)(k n:Int):Bool:=if k=4 then (Cd.findAt n L).isSome&&((Cd.orZero (Cd.findAt n L)).op==15) else Tr.settledB T k n
def Bnl(b:PBd)(g:Nat)(k n:Int)(w:TW)(t:b.ok w g):Calls prog 303 #[b.val,.agg #[.i k,.i n]] w fun e f=>e=.r (.bool (Cd.mapTy b.T b.L k n))/\Bl w f:=by
 have q:=fun w (h:b.ok w g)=>Bli b.L b.la b.lc g n w h.2.1 h.2.2.2;have s:=fun w=>Bfn (ya:=b.ya) (yn:=b.yn) (yc:=b.yc) b.T (.p b.tg) b.tc k n w;have v:∀f,Bl w f->b.ok f g:=fun f h=>t.below h;generalize c:Cd.mapTy b.T b.L k n=R;unfold Cd.mapTy at c;obtain⟨D,F,G,I,J,K,N,O,ya,yn,yc,Q,V,Y,Z,pc,r1,r2,lo,st,ca,cn,cc,ha,hl,hc,ma,ml,mc,la,lc,T,L⟩:=b;simp only[PBd.val]at q s c ⊢;have z:=Bc q;have A:=Bc s;have B:=Bc v;by_cases j:k=4;·rw[Sp j]at c;subst j;have l:=Bc c;go_in;go_wp2_with fail;refine Qm (Ba z _ (Ba B _ (Bx _ _ _))) ?_;intro C m;go_wp2;go_ret;exact⟨by rw[<- Ba l];rfl,(Bx _ _ _).trans (m.mono Fm)⟩
 rw[Pf j]at c;have a0:(k==4)=false:=by simp[j]
 have l:=Bc c;go_in;go_wp2_with fail;refine Qm (Ba A _) ?_;intro C m;go_wp2;go_ret;exact⟨by rw[<- Ba l];rfl,(Bx _ _ _).trans (m.mono Fm)⟩
def Cd.mapTys(T:TI)(L:List Cd.Ins)(l:TP):Bool:=l.all fun t=>Cd.mapTy T L t.1 t.2
def Bcg(b:PBd)(z b2:Nat)(l:TP)(F:TA)(vc:Nat)(w:TW)(hb:b.ok w z)(hl:l.length<=1000)(ht:Dp w b2 (.s F l.length vc) l):Calls prog 288 #[b.val,.s F l.length vc] w fun e c=>e=.r (.bool (Cd.mapTys b.T b.L l))/\Bl w c:=by
 have G:=fun k n w (h:b.ok w z)=>Bnl b z k n w h;have a3:∀c,Bl w c->b.ok c z:=fun c h=>hb.below h;have a4:∀c,Bl w c->Dp c b2 (.s F l.length vc) l:=fun c h=>ht.kp (Kp.of_below (e:=none) h) Ck;generalize hR:Cd.mapTys b.T b.L l=R;have f:Hid (Cd.mapTys b.T b.L (l.drop 0)=R):=hR;clear hR;obtain⟨I,J,K,N,O,Q,V,Y,ya,yn,yc,cl,nm,pa,pl,pc,r1,r2,lo,st,ca,cn,cc,ha,a0,hc,ma,ml,mc,la,lc,T,L⟩:=b;simp only[PBd.val]at G f ⊢;have HM:=Bc G;have HO:=Bc a3;have HT:=Bc a4;clear G a3 a4 hb ht;have a5:Bl w (w.alloc (O16 I J K N O Q (.p V) T.length Y ya yn yc cl nm pa pl pc r1 r2 lo st ca cn cc ha a0 hc ma ml mc la L.length lc)):=QN _;have C0:=Bf w (O16 I J K N O Q (.p V) T.length Y ya yn yc cl nm pa pl pc r1 r2 lo st ca cn cc ha a0 hc ma ml mc la L.length lc);go_in;go_wp2
 go_loopw [9] (fun v wr=>∃k:Nat,k<=l.length/\v=.i (k:Int)/\Hid (Cd.mapTys T L (l.drop k)=R)/\Bl w wr /\
   wr.heap[w.heap.size]?=some (O16 I J K N O Q (.p V) T.length Y ya yn yc cl nm pa pl pc r1 r2 lo st ca cn cc ha a0 hc ma ml mc la L.length lc))
  (fun v _=>l.length-(intOf v).toNat)
 case atStart=>exact⟨0,Bd,rfl,f,a5,C0⟩
 case round=>
  clear a5 C0 f;obtain⟨k,hk,rfl,f,j,A⟩:=hrel;obtain⟨m0,m1,m2,m3,m4,m5,m6,m7,m8,m9,a6,a7,a8,a9,b0⟩:=Wg A;simp at m0 m1 m2 m3 m4 m5 m6 m7 m8 m9 a6 a7 a8 a9 b0;have b6:=j.size;have lB:=Pk A;by_cases b1:k<l.length
  ·obtain⟨g,hg,b8,_,a1⟩:=Cf (Ba HT _ j) Bd;obtain⟨e1,e2,e3⟩:=Gc l k b1;have u0:=(a1 (k*2) Bd).trans e1;have u1:=(a1 (k*2+1) Bd).trans e2;have hd:l.drop k=l[k]::l.drop (k+1):=Wr b1;have m:=Ba f;unfold Cd.mapTys at m;rw[hd,B00]at m;generalize l[k]=t at *;obtain⟨B,C⟩:=t;simp only at u0 u1 m;have hm:=fun w h=>Ba HM B C w h;generalize Cd.mapTy T L B C=Z at *;have HZ:=Bc hm;have D:=Bc m;have kb:(k:Int)<(l.length:Int):=Bd;have b3:=Bk A (O7 B C);have a2:=j.alloc b6 (O7 B C);clear hm m hd a1 e1 e2 e3 f;subst hg;go_wp2_with fail;refine Qb (Ba HZ _ (Ba HO _ a2)) a2 ?_;intro w2 b4 b5;have b7:=stay b4 b3;clear b4 a2 b3 A j u0 u1 m0 m1 m2 m3 m4 m5 m6 m7 m8 m9 a6 a7 a8 a9 b0;cases Z with
   | false =>
    have q:Hid (R=false):=by unfold Hid;rw[<- Ba D];simp
    clear D;go_wp2;go_ret;exact⟨by rw[Ba q];rfl,b5⟩
   | true =>
    have q:Hid (Cd.mapTys T L (l.drop (k+1))=R):=by unfold Hid Cd.mapTys;rw[<- Ba D];simp
    clear D;go_wp2;go_roundw
    case rel=>exact⟨k+1,Bd,Lt,q,b5,b7⟩
    case measure=>simp[intOf];omega
  have q:Hid (R=true):=by unfold Hid;rw[<- Ba f,Bvi Bd];rfl
  have kb:¬(k:Int)<(l.length:Int):=Bd;clear f;go_wp2;go_ret;exact⟨by rw[Ba q];rfl,j⟩
def Cd.mapMay(T:TI)(L:List Cd.Ins)(x:Rd.Mp):Bool:=(Cd.findAt x.place L).isSome&&(Cd.mapTys T L x.locals&&Cd.mapTys T L x.stack)
def Bkx(b:PBd)(f j:Nat)(x:Rd.Mp)(a0 a1:TA)(a2 a3:Nat)(w:TW)(l:b.ok w f)(b3:x.locals.length<=1000)(b4:x.stack.length<=1000)(a7:Dp w j (.s a0 x.locals.length a2) x.locals)(a8:Dp w j (.s a1 x.stack.length a3) x.stack):Calls prog 259 #[b.val,.agg #[.i x.place,.s a0 x.locals.length a2,.s a1 x.stack.length a3]] w fun e c=>e=.r (.bool (Cd.mapMay b.T b.L x))/\Bl w c:=by
 have m:=fun w (h:b.ok w f)=>Xn b.L b.la b.lc f x.place w h.2.1 h.2.2.2;have p:=fun c (h:Bl w c)=>Bcg b f j x.locals a0 a2 c (l.below h) b3 (a7.kp (Kp.of_below (e:=none) h) Ck);have q:=fun c (h:Bl w c)=>Bcg b f j x.stack a1 a3 c (l.below h) b4 (a8.kp (Kp.of_below (e:=none) h) Ck);have a9:∀c,Bl w c->b.ok c f:=fun c h=>l.below h;obtain⟨b5,b6,b7⟩:=x;unfold Cd.mapMay;simp only at m p q ⊢;generalize Cd.mapTys b.T b.L b6=M1 at *;generalize Cd.mapTys b.T b.L b7=M2 at *;generalize (Cd.findAt b5 b.L).isSome=B at *;obtain⟨c2,c3,c4,c5,c6,c7,tg,tc,ya,yn,yc,cl,nm,pa,pl,pc,r1,r2,lo,st,ca,cn,cc,ha,c8,hc,ma,ml,mc,la,lc,T,L⟩:=b;simp only[PBd.val]at m p q ⊢;have b8:=Bc m;have b9:=Bc p;have c0:=Bc q;have HO:=Bc a9;clear m p q a9 l a7 a8;go_in;go_wp2_with fail;refine Qm (Ba b8 _ (Ba HO _ (Bx _ _ _))) ?_;intro w1 t;have a4:=(Bx w _ _).trans (t.mono Fm);have v:=stay t (Cb w _ _);have g:=stay t (Bv w _ _);clear t;cases B with
 | false =>
  clear v g;go_wp2;go_ret;exact⟨rfl,a4⟩
 | true =>
  obtain⟨z,A,C,D,F,G,I,J,K,N,O,Q,V,Y,Z⟩:=Wg v;simp at z A C D F G I J K N O Q V Y Z;have x1:=Bb g 1;have x2:=Bb g 2;simp at x1 x2;go_wp2_with fail;refine Qb (Ba b9 _ a4) a4 ?_;intro w2 a5 a6;have b0:=stay a5 v;have b1:=stay a5 g;clear a5 x1 x2 z A C D F G I J K N O Q V Y Z v g;cases M1 with
  | false =>
   clear b0 b1;go_wp2;go_ret;exact⟨rfl,a6⟩
  | true =>
   obtain⟨z,A,C,D,F,G,I,J,K,N,O,Q,V,Y,Z⟩:=Wg b0;simp at z A C D F G I J K N O Q V Y Z;have x2:=Bb b1 2;simp at x2;go_wp2_with fail;refine Qm (Ba c0 _ a6) ?_;intro w3 c1;go_wp2;go_ret;exact⟨Fr,QB a6 c1⟩
def Cd.hndMay(T:TI)(L:List Cd.Ins)(cn:Int)(x:Rd.Hnd):Bool :=
 if x.til<=x.frm then false else if (Cd.findAt x.frm L).isSome=false then false else if (Cd.findAt x.target L).isSome=false then false
 else if x.til≠cn/\(Cd.findAt x.til L).isSome=false then false else Tr.within T x.cl 1
def Bk7(b:PBd)(K:Nat)(x:Rd.Hnd)(w:TW)(hb:b.ok w K):Calls prog 215 #[b.val,.agg #[.i x.frm,.i x.til,.i x.target,.i x.cl]] w fun e N=>e=.r (.bool (Cd.hndMay b.T b.L (b.cn:Int) x))/\Bl w N:=by
 have Z:=fun p w (h:b.ok w K)=>Xn b.L b.la b.lc K p w h.2.1 h.2.2.2;have a0:=fun w (h:b.ok w K)=>N1 (ya:=b.ya) (yn:=b.yn) (yc:=b.yc) b.T b.tg b.tc x.cl 1 w h.1 h.2.2.1;have b1:∀N,Bl w N->b.ok N K:=fun N h=>hb.below h;obtain⟨O,j,a3,b2⟩:=x;generalize Q:Cd.hndMay b.T b.L (b.cn:Int) ⟨O,j,a3,b2⟩=R;unfold Cd.hndMay at Q;simp only at a0 Q ⊢;have G:=fun w h=>Z O w h;have g:=fun w h=>Z a3 w h;have h3:=fun w h=>Z j w h;generalize (Cd.findAt O b.L).isSome=A at *;generalize (Cd.findAt a3 b.L).isSome=C at *;generalize (Cd.findAt j b.L).isSome=B at *;generalize Tr.within b.T b2 1=D at *;obtain⟨b6,b7,b8,b9,c0,c1,tg,tc,ya,yn,yc,cl,nm,pa,pl,pc,r1,r2,lo,st,ca,cn,cc,ha,c2,hc,ma,ml,mc,la,lc,T,L⟩:=b;simp only[PBd.val]at G g h3 a0 Q ⊢;have HA:=Bc G;have HC:=Bc g;have HB:=Bc h3;have HD:=Bc a0;have V:=Bc b1;clear Z G g h3 a0 b1 hb;have c:=Bc (fun (_:Unit)=>Q);clear Q;by_cases G:j<=O
 ·have f:Hid (R=false):=by unfold Hid;rw[<- Ba c ()];simp[G]
  clear c;go_in;go_wp2;go_ret;exact⟨by rw[Ba f];rfl,Bx _ _ _⟩
 go_in;go_wp2_with fail;refine Qm (Ba HA _ (Ba V _ (Bx _ _ _))) ?_;intro w1 a1;have a4:=(Bx w _ _).trans (a1.mono Fm);have I:=stay a1 (Cb w _ _);have a5:=stay a1 (Bv w _ _);clear a1;have l:=Bb I 2;have m:=Bb I 3;have q:=Bb I 11;have s:=Bb I 14;obtain⟨t,v,z,F⟩:=cl4 a5;simp at l m q s t v z F;cases A with
 | false =>
  have f:Hid (R=false):=by unfold Hid;rw[<- Ba c ()];simp
  clear c;go_wp2;go_ret;exact⟨by rw[Ba f];rfl,a4⟩
 | true =>
  go_wp2_with fail;refine Qb (Ba HC _ (Ba V _ a4)) a4 ?_;intro w2 a6 Y;have J:=stay a6 I;have a7:=stay a6 a5;clear a6 l m q s t v z F I a5;have l:=Bb J 2;have m:=Bb J 3;have q:=Bb J 11;have s:=Bb J 14;obtain⟨t,v,z,F⟩:=cl4 a7;simp at l m q s t v z F;cases C with
  | false =>
   have f:Hid (R=false):=by unfold Hid;rw[<- Ba c ()];simp
   clear c;go_wp2;go_ret;exact⟨by rw[Ba f];rfl,Y⟩
  | true =>
   by_cases g:j=(cn:Int)
   ·have b3:(j != (cn:Int))=false:=by simp[g]
    have b4:¬(cn:Int)<=O:=Bd;have f:Hid (R=D):=by unfold Hid;rw[<- Ba c ()];simp[g,b4]
    clear c g;go_wp2_with fail;refine Qm (Ba HD _ (Ba V _ Y)) ?_;intro w9 a8;go_wp2;go_ret;exact⟨by rw[Ba f];rfl,QB Y a8⟩
   have b3:(j != (cn:Int))=true:=by simp[g]
   go_wp2_with fail;refine Qb (Ba HB _ (Ba V _ Y)) Y ?_;intro w3 a9 b0;have a2:=stay a9 J;have b5:=stay a9 a7;clear a9 l m q s t v z F J a7;have l:=Bb a2 2;have m:=Bb a2 3;have q:=Bb a2 11;have s:=Bb a2 14;obtain⟨t,v,z,F⟩:=cl4 b5;simp at l m q s t v z F;cases B with
   | false =>
    have f:Hid (R=false):=by unfold Hid;rw[<- Ba c ()];simp[g]
    clear c;go_wp2;go_ret;exact⟨by rw[Ba f];rfl,b0⟩
   | true =>
    have f:Hid (R=D):=by unfold Hid;rw[<- Ba c ()];simp[G,g]
    clear c;go_wp2_with fail;refine Qm (Ba HD _ (Ba V _ b0)) ?_;intro w9 a8;go_wp2;go_ret;exact⟨by rw[Ba f];rfl,QB b0 a8⟩
def Bu5(l:List (Rd.Mth×Eh))(k:Nat)(b:k<l.length):(Kw l)[k*10]?=some (.i l[k].1.cl)/\k*10<(Kw l).length:=by
 have h:=M5 (fun x:Rd.Mth×Eh=>Ly x.1 x.2) 10 (fun _=>rfl) l k b 0 Bd;have c:=Kq (fun x:Rd.Mth×Eh=>Ly x.1 x.2) 10 (fun _=>rfl) l;refine⟨?_,?_⟩
 ·unfold Kw;rw[show k*10=k*10+0 by omega,h];rfl
 unfold Kw;rw[c];omega
def Cd.hasM(ow:TI)(n:Int)(ofc:Bool):Bool:=if n<0 then false else if (ow.length:Int)<=n then false else ((ow.getD n.toNat 0 != 255)==ofc)
def Bqv(b:PBd)(C:Nat)(c:List (Rd.Mth×Eh))(n:Int)(h:Bool)(w:TW)(j:b.fl2=c.length)(G:c.length<=1000)(f:Eb w C (.s b.fa2 b.fl2 b.fc2) c):Calls prog 257 #[b.val,.i n,.bool h] w fun e D=>e=.r (.bool (Cd.hasM (c.map fun p=>p.1.cl) n h))/\Bl w D:=by
 unfold Cd.hasM;rw[Bvr];obtain⟨I,J,K,N,O,Q,V,Y,ya,yn,yc,Z,nm,pa,pl,pc,r1,r2,lo,st,ca,cn,cc,ha,a0,hc,ma,ml,mc,la,lc,T,L⟩:=b;simp only at j f;subst j;simp only[PBd.val];by_cases l:n<0;·rw[Sp l];go_in;go_wp2;go_ret;exact⟨rfl,QN _⟩
 rw[Pf l];by_cases m:(c.length:Int)<=n;·rw[Sp m];go_in;go_wp2;go_ret;exact⟨rfl,QN _⟩
 rw[Pf m];obtain⟨q,rfl⟩:=Bvk (show 0<=n by omega);have t:q<c.length:=Bd;obtain⟨g,F,a1,_,v⟩:=Cf f.1 Bd;obtain⟨z,A⟩:=Bu5 c q t;have y0:=(v _ A).trans z;have B:(c.map fun p=>p.1.cl).getD q 0=c[q].1.cl:=by simp[Th,t]
 rw[Bvn,B];generalize c[q].1.cl=oc at *;have kb:(q:Int)<(c.length:Int):=Bd;clear B z A v f;subst F;go_in;go_wp2;go_ret;exact⟨rfl,QN _⟩
def Cd.fieldSum:List Rd.Cls->Nat
 | []=>0
 | c::r=>c.fields.length+Cd.fieldSum r
def Bdh(h B:TA)(j C D O:Nat)(l:List (Rd.Cls×Value))(w:TW)(hl:l.length<=6)(Q:∀p∈l,p.1.fields.length<=1000)(V:Ex w O (.s h l.length j) l):Calls prog 256 #[.agg #[.s h l.length j,.s B C D]] w fun e Y=>e=.r (.i (Cd.fieldSum (l.map Prod.fst):Int))/\Bl w Y:=by
 generalize F:(Cd.fieldSum (l.map Prod.fst):Int)=R;have b:Hid (((0+Cd.fieldSum ((l.map Prod.fst).drop 0):Nat):Int)=R):=by unfold Hid;rw[<- F];simp
 clear F;have G:Bl w (w.alloc (O1 h l.length j B C D)):=QN _;go_in;go_wp2
 go_loopw [3,9] (fun u v wr=>∃k t:Nat,k<=l.length/\v=.i (k:Int)/\u=.i (t:Int)/\t<=1000*k/\Hid (((t+Cd.fieldSum ((l.map Prod.fst).drop k):Nat):Int)=R)/\Bl w wr)
  (fun _ v _=>l.length-(intOf v).toNat)
 case atStart=>exact⟨0,0,Bd,rfl,rfl,Bd,b,G⟩
 case round=>
  clear b G;obtain⟨k,t,hk,rfl,rfl,a4,b,c⟩:=hrel;have Z:=c.size;by_cases f:k<l.length
  ·have m:=V.kp (Kp.of_below (e:=none) c) Ck Ck;obtain⟨g,hg,a5,_,q⟩:=Cf m.1 Bd;obtain⟨I,J,K⟩:=Ns l k f;have x0:=(q _ Bd).trans I;have x1:=(q _ K).trans J;obtain⟨ua,uc,L⟩:=Bg (m.2 _ (Bvh f));rw[L]at x1;have a6:=Q _ (Bvh f);have N:(l.map Prod.fst).drop k=l[k].1::(l.map Prod.fst).drop (k+1):=by
    rw[Wr (by simpa using f)];simp
   have z:=Ba b;rw[N,Cd.fieldSum]at z;generalize l[k].1.fields.length=A at *;generalize l[k].1.above=ab at *;have a0:Hid (((t+A+Cd.fieldSum ((l.map Prod.fst).drop (k+1)):Nat):Int)=R):=by unfold Hid;rw[<- z];omega
   have kb:(k:Int)<(l.length:Int):=Bd;have a3:=c.alloc Z (O5 ab ua A uc);clear z N q I J K m L b;subst hg;go_wp2;go_roundw
   case rel=>exact⟨k+1,t+A,Bd,Lt,Lt,Bd,a0,a3⟩
   case measure=>simp[intOf];omega
  have HF:Hid ((t:Int)=R):=by unfold Hid;rw[<- Ba b,Bvi Fm];simp[Cd.fieldSum]
  have kb:¬(k:Int)<(l.length:Int):=Bd;clear b;go_wp2;go_ret;exact⟨by rw[<- Ba HF];rfl,c⟩
def Cd.argP(T:TI)(nf:Int)(ow:TI)(lo:Int)(L:List Cd.Ins)(op n:Int):Bool :=
 if op=2\/op=3 then decide (n<lo)
 else if 11<=op/\op<=14 then (Cd.findAt n L).isSome
 else if op=15\/op=16\/op=19 then Tr.hasB T n
 else if op=17\/op=18 then decide (n<nf)
 else if op=20 then Cd.hasM ow n false
 else if op=21 then Cd.hasM ow n true
 else true
def Bn1(b:PBd)(bb bm:Nat)(f:List (Rd.Cls×Value))(j:List (Rd.Mth×Eh))(p op n:Int)(w:TW)(hb:b.ok w bb)(a1:b.fl1=f.length)(a2:b.fl2=j.length)(b4:j.length<=1000)(b5:f.length<=6)(a8:∀p∈f,p.1.fields.length<=1000) (a3:Ex w bm (.s b.fa1 b.fl1 b.fc1) f)(a9:Eb w bm (.s b.fa2 b.fl2 b.fc2) j):Calls prog 214 #[b.val,.agg #[.i p,.i op,.i n]] w fun e g => e=.r (.bool (Cd.argP b.T (Cd.fieldSum (f.map Prod.fst):Int) (j.map fun p=>p.1.cl) b.lo b.L op n))/\Bl w g:=by
 have a4:=fun w (h:b.ok w bb)=>Xn b.L b.la b.lc bb n w h.2.1 h.2.2.2;have a5:=fun w=>Bdf (ya:=b.ya) (yn:=b.yn) (yc:=b.yc) b.T (.p b.tg) b.tc n w;have a6:=fun o g (h:Bl w g)=>Bqv b bm j n o g a2 b4 (a9.kp (Kp.of_below (e:=none) h) Ck Ck Ck Ck Ck);have a7:∀g,Bl w g->Calls prog 256 #[.agg #[.s b.fa1 b.fl1 b.fc1,.s b.fa2 b.fl2 b.fc2]] g fun e w2=>e=.r (.i (Cd.fieldSum (f.map Prod.fst):Int))/\Bl g w2:=by
  intro g h;rw[a1]at a3 ⊢;exact Bdh b.fa1 b.fa2 b.fc1 b.fl2 b.fc2 bm f g b5 a8 (a3.kp (Kp.of_below (e:=none) h) Ck Ck)
 have b0:∀g,Bl w g->b.ok g bb:=fun g h=>hb.below h;generalize l:Cd.argP b.T (Cd.fieldSum (f.map Prod.fst):Int) (j.map fun p=>p.1.cl) b.lo b.L op n=R;unfold Cd.argP at l;generalize (Cd.fieldSum (f.map Prod.fst):Int)=nf at *;generalize Cd.hasM (j.map fun p=>p.1.cl) n=b1 at *;generalize (Cd.findAt n b.L).isSome=B at *;generalize Tr.hasB b.T n=K at *;obtain⟨t,c4,v,z,c5,A,F,G,ya,yn,yc,I,J,N,O,Q,V,Y,D,Z,ca,cn,cc,ha,a0,hc,ma,ml,mc,la,lc,T,L⟩:=b;simp only at a1 a2;subst a1 a2;simp only[PBd.val]at a4 a5 a6 a7 l ⊢;have b6:=Bc a4;have b7:=Bc a5;have b2:=Bc a6;have b3:=Bc a7;have HO:=Bc b0;clear a4 a5 a6 a7 b0 hb a3 a9 a8;by_cases c:op=2\/op=3
 ·rcases c with rfl|rfl
  all_goals
   have q:Hid (R=decide (n<D)):=by unfold Hid;rw[<- l];simp
   clear l;go_in;go_wp2;go_ret;exact⟨by rw[Ba q];rfl,Bx _ _ _⟩
 have n2:(op==2)=false:=Fm;have n3:(op==3)=false:=Fm;have i2:=c;clear c;by_cases c:op=11\/op=12\/op=13\/op=14
 ·rcases c with rfl|rfl|rfl|rfl
  all_goals
   have q:Hid (R=B):=by unfold Hid;rw[<- l];simp
   clear l;go_in;go_wp2_with fail;refine Qm (Ba b6 _ (Ba HO _ (Bx _ _ _))) ?_;intro w2 m;go_wp2;go_ret;exact⟨by rw[Ba q];rfl,(Bx _ _ _).trans (m.mono Fm)⟩
 have c6:(op==11)=false:=Fm;have c7:(op==12)=false:=Fm;have c8:(op==13)=false:=Fm;have c9:(op==14)=false:=Fm;have b8:=c;clear c;by_cases c:op=15\/op=16\/op=19
 ·rcases c with rfl|rfl|rfl
  all_goals
   have q:Hid (R=K):=by unfold Hid;rw[<- l];simp
   clear l;go_in;go_wp2_with fail;refine Qm (Ba b7 _) ?_;intro w2 m;go_wp2;go_ret;exact⟨by rw[Ba q];rfl,(Bx _ _ _).trans (m.mono Fm)⟩
 have d0:(op==15)=false:=Fm;have d1:(op==16)=false:=Fm;have d2:(op==19)=false:=Fm;have b9:=c;clear c;by_cases c:op=17
 ·subst c;have CB:=Cb w (O16 t f.length v z j.length A (.p F) T.length G ya yn yc I J N O Q V Y D Z ca cn cc ha a0 hc ma ml mc la L.length lc) (O15 p 17 n);have CI:=Bv w (O16 t f.length v z j.length A (.p F) T.length G ya yn yc I J N O Q V Y D Z ca cn cc ha a0 hc ma ml mc la L.length lc) (O15 p 17 n);have f0:((w.alloc (O16 t f.length v z j.length A (.p F) T.length G ya yn yc I J N O Q V Y D Z ca cn cc ha a0 hc ma ml mc la L.length lc)).alloc (O15 p 17 n)).C w.heap.size 0 (.s t f.length v):=Bb CB 0;have f1:((w.alloc (O16 t f.length v z j.length A (.p F) T.length G ya yn yc I J N O Q V Y D Z ca cn cc ha a0 hc ma ml mc la L.length lc)).alloc (O15 p 17 n)).C w.heap.size 1 (.s z j.length A):=Bb CB 1;have g2:((w.alloc (O16 t f.length v z j.length A (.p F) T.length G ya yn yc I J N O Q V Y D Z ca cn cc ha a0 hc ma ml mc la L.length lc)).alloc (O15 p 17 n)).C (w.heap.size+1) 2 (.i n):=Bb CI 2;have lF:=Pk CB;have lI:=Pk CI;have q:Hid (R=decide (n<nf)):=by unfold Hid;rw[<- l];simp
  clear l;go_in;go_wp2
  go_region_held3 (fun g=>g.C w.heap.size 0 (.s t f.length v)/\g.C w.heap.size 1 (.s z j.length A)/\g.C (w.heap.size+1) 2 (.i n))
   (first|exact⟨f0,f1,g2⟩|exact⟨QC m lF f0,QC m lF f1,QC m lI g2⟩)
   (first|(go_at_call 256;refine(Ba b3 _ (Bx _ _ _).drew).mono ?_;rintro e w2 ⟨rfl,m⟩))
  all_goals
   go_wp2;go_ret;exact⟨by rw[Ba q];rfl,(Bx _ _ _).drew.trans (m.mono Fm)⟩
 have d3:(op==17)=false:=by simp[c]
 have c0:=c;clear c;by_cases c:op=18
 ·subst c;have CB:=Cb w (O16 t f.length v z j.length A (.p F) T.length G ya yn yc I J N O Q V Y D Z ca cn cc ha a0 hc ma ml mc la L.length lc) (O15 p 18 n);have CI:=Bv w (O16 t f.length v z j.length A (.p F) T.length G ya yn yc I J N O Q V Y D Z ca cn cc ha a0 hc ma ml mc la L.length lc) (O15 p 18 n);have f0:((w.alloc (O16 t f.length v z j.length A (.p F) T.length G ya yn yc I J N O Q V Y D Z ca cn cc ha a0 hc ma ml mc la L.length lc)).alloc (O15 p 18 n)).C w.heap.size 0 (.s t f.length v):=Bb CB 0;have f1:((w.alloc (O16 t f.length v z j.length A (.p F) T.length G ya yn yc I J N O Q V Y D Z ca cn cc ha a0 hc ma ml mc la L.length lc)).alloc (O15 p 18 n)).C w.heap.size 1 (.s z j.length A):=Bb CB 1;have g2:((w.alloc (O16 t f.length v z j.length A (.p F) T.length G ya yn yc I J N O Q V Y D Z ca cn cc ha a0 hc ma ml mc la L.length lc)).alloc (O15 p 18 n)).C (w.heap.size+1) 2 (.i n):=Bb CI 2;have lF:=Pk CB;have lI:=Pk CI;have q:Hid (R=decide (n<nf)):=by unfold Hid;rw[<- l];simp
  clear l;go_in;go_wp2
  go_region_held3 (fun g=>g.C w.heap.size 0 (.s t f.length v)/\g.C w.heap.size 1 (.s z j.length A)/\g.C (w.heap.size+1) 2 (.i n))
   (first|exact⟨f0,f1,g2⟩|exact⟨QC m lF f0,QC m lF f1,QC m lI g2⟩)
   (first|(go_at_call 256;refine(Ba b3 _ (Bx _ _ _).drew).mono ?_;rintro e w2 ⟨rfl,m⟩))
  all_goals
   go_wp2;go_ret;exact⟨by rw[Ba q];rfl,(Bx _ _ _).drew.trans (m.mono Fm)⟩
 have d4:(op==18)=false:=by simp[c]
 have c1:=c;clear c;by_cases c:op=20
 ·subst c;have q:Hid (R=b1 false):=by unfold Hid;rw[<- l];simp
  clear l;go_in;go_wp2_with fail;refine Qm (Ba b2 false _ (Bx _ _ _)) ?_;intro w2 m;go_wp2;go_ret;exact⟨by rw[Ba q];rfl,(Bx _ _ _).trans (m.mono Fm)⟩
 have d5:(op==20)=false:=by simp[c]
 have c2:=c;clear c;by_cases c:op=21
 ·subst c;have q:Hid (R=b1 true):=by unfold Hid;rw[<- l];simp
  clear l;go_in;go_wp2_with fail;refine Qm (Ba b2 true _ (Bx _ _ _)) ?_;intro w2 m;go_wp2;go_ret;exact⟨by rw[Ba q];rfl,(Bx _ _ _).trans (m.mono Fm)⟩
 have d6:(op==21)=false:=by simp[c]
 have c3:=c;clear c;have q:Hid (R=true):=by
  unfold Hid;rw[<- l,Pf Bd,Pf Bd,Pf Bd,Pf Bd,Pf Bd,Pf Bd]
 clear l i2 b8 b9 c0 c1 c2 c3;go_in;go_wp2;go_ret;exact⟨by rw[Ba q];rfl,Bx _ _ _⟩
def Cd.inMaps(T:TI)(L:List Cd.Ins):Nat->Int->List Rd.Mp->Int
 | _,_,[]=>-1
 | i,low,x::r=>if x.place<low then (i:Int) else if Cd.mapMay T L x=false then (i:Int) else Cd.inMaps T L (i+1) (x.place+1) r
def Cd.faultOf(r:Int):Int × Int:=if r<0 then (0,0) else (7,r)
def Bk5(b:PBd)(bb b2:Nat)(c:List (Rd.Mp×Value×Value))(w:TW)(hb:b.ok w bb)(b9:b.ml=c.length)(f2:c.length<=1000)(c0:∀p∈c,p.1.locals.length<=1000/\p.1.stack.length<=1000/\-1000<=p.1.place/\p.1.place<=1000)(c1:Ob w b2 (.s b.ma b.ml b.mc) c):Calls prog 216 #[b.val] w fun e m => e=.r (.agg #[.i (Cd.faultOf (Cd.inMaps b.T b.L 0 0 (c.map Prod.fst))).1,.i 0,.i (Cd.faultOf (Cd.inMaps b.T b.L 0 0 (c.map Prod.fst))).2])/\Bl w m:=by
 have b0:=fun x q t z A m (h:Bl w m) h1 h2 h3 h4=>Bkx b bb b2 x q t z A m (hb.below h) h1 h2 h3 h4;have b1:∀m,Bl w m->Ob m b2 (.s b.ma b.ml b.mc) c:=fun m h=>c1.kp (Kp.of_below (e:=none) h) Ck Ck;generalize F:Cd.inMaps b.T b.L 0 0 (c.map Prod.fst)=r;have B:Hid (Cd.inMaps b.T b.L 0 0 ((c.map Prod.fst).drop 0)=r):=F;generalize hF:Cd.faultOf r=Fa;have HF:=Bc hF;clear F hF hb c1;obtain⟨V,Y,Z,a0,a1,a2,tg,tc,ya,yn,yc,cl,nm,pa,pl,pc,r1,r2,lo,st,ca,cn,cc,ha,a3,hc,ma,ml,mc,la,lc,T,L⟩:=b;simp only at b9;subst b9;simp only[PBd.val]at b0 b1 B ⊢;have d4:=Bc b0;have d5:=Bc b1;have d6:=Bc c0;clear b0 b1 c0;have c2:=Bx w (O16 V Y Z a0 a1 a2 (.p tg) T.length tc ya yn yc cl nm pa pl pc r1 r2 lo st ca cn cc ha a3 hc ma c.length mc la L.length lc) (O8 0 0 0);have c3:=Cb w (O16 V Y Z a0 a1 a2 (.p tg) T.length tc ya yn yc cl nm pa pl pc r1 r2 lo st ca cn cc ha a3 hc ma c.length mc la L.length lc) (O8 0 0 0);have c4:=Bv w (O16 V Y Z a0 a1 a2 (.p tg) T.length tc ya yn yc cl nm pa pl pc r1 r2 lo st ca cn cc ha a3 hc ma c.length mc la L.length lc) (O8 0 0 0);go_in;go_wp2
 go_loopw [3,10] (fun u v wr=>∃(k:Nat) (a4:Int),k<=c.length/\v=.i (k:Int)/\u=.i a4/\Hid (Cd.inMaps T L k a4 ((c.map Prod.fst).drop k)=r)/\Bl w wr /\
   wr.heap[w.heap.size]?=some (O16 V Y Z a0 a1 a2 (.p tg) T.length tc ya yn yc cl nm pa pl pc r1 r2 lo st ca cn cc ha a3 hc ma c.length mc la L.length lc)/\wr.heap[w.heap.size+1]?=some (O8 0 0 0))
  (fun _ v _=>c.length-(intOf v).toNat)
 case atStart=>exact⟨0,0,Bd,rfl,rfl,B,c2,c3,c4⟩
 case round=>
  clear B c2 c3 c4;obtain⟨k,a4,hk,rfl,rfl,B,K,CB,G⟩:=hrel;obtain⟨m0,m1,m2,m3,m4,m5,m6,m7,m8,m9,c5,c6,c7,c8,c9⟩:=Wg CB;simp at m0 m1 m2 m3 m4 m5 m6 m7 m8 m9 c5 c6 c7 c8 c9;have d7:=K.size;have lB:=Pk CB;have lR:=Pk G;by_cases l:k<c.length
  ·have b3:=Ba d5 _ K;obtain⟨g,hg,f3,_,a5⟩:=Cf b3.1 Bd;have y0:=(a5 _ (Ge c k l 0 Bd).2).trans (Ge c k l 0 Bd).1;have y1:=(a5 _ (Ge c k l 1 Bd).2).trans (Ge c k l 1 Bd).1;have y2:=(a5 _ (Ge c k l 2 Bd).2).trans (Ge c k l 2 Bd).1;obtain⟨a6,a7⟩:=b3.2 _ (Bvh l);obtain⟨d0,d1,d8,d9⟩:=Ba d6 _ (Bvh l);have hd:(c.map Prod.fst).drop k=c[k].1::(c.map Prod.fst).drop (k+1):=by
    rw[Wr (by simpa using l)];simp
   have F:=Ba B;rw[hd,Cd.inMaps]at F;generalize c[k]=x at *;obtain⟨⟨f,I,J⟩,v1,v2⟩:=x;simp only at y0 y1 y2 a6 a7 d0 d1 F d8 d9;obtain⟨q,z,rfl⟩:=Bg a6;obtain⟨t,A,rfl⟩:=Bg a7;simp at y0 y1 y2;have a8:=K.alloc d7 (O17 f q I.length z t J.length A);have b4:Bl wr (wr.alloc (O17 f q I.length z t J.length A)):=QN _;have b5:=Ba d4 ⟨f,I,J⟩ q t z A _ a8 d0 d1 (a6.kp (Kp.of_below (e:=none) b4) Ck) (a7.kp (Kp.of_below (e:=none) b4) Ck);simp only at b5;generalize Cd.mapMay T L ⟨f,I,J⟩=M at *;have d2:=Bf wr (O17 f q I.length z t J.length A);have d3:=Bk CB (O17 f q I.length z t J.length A);have b6:=Bk G (O17 f q I.length z t J.length A);have HM:=Bc b5;have N:=Bc F;have kb:(k:Int)<(c.length:Int):=Bd;clear b5 F hd a5 B a6 a7 b3 b4;subst hg;by_cases b7:f<a4
   ·have Q:Hid (Fa=(7,(k:Int))):=by
     unfold Hid;rw[<- Ba HF,<- Ba N,Sp b7,Cd.faultOf,Pf Bd]
    obtain⟨q0,q1,q2⟩:=fr3 G;obtain⟨j,C,D⟩:=cl3 G;simp at j C D;clear N HM;go_wp2_with fail;refine tb (.agg #[.i 7,.i 0,.i (k:Int)]) (by simp[results,B0d,go_sem,j,C,D,lR]) ?_;rw[Ba Q];exact⟨rfl,by repeat (first|refine Bvq ?_ Fr _|refine Bwu ?_ (by first|omega|(simp;omega)) _|exact K)⟩
   cases M with
   | false =>
    have Q:Hid (Fa=(7,(k:Int))):=by
     unfold Hid;rw[<- Ba HF,<- Ba N,Pf b7,Sp rfl,Cd.faultOf,Pf Bd]
    clear N;go_wp2_with fail;refine Qb (Ba HM) a8 ?_;intro w2 O b8;have a9:=stay O b6;obtain⟨q0,q1,q2⟩:=fr3 a9;obtain⟨j,C,D⟩:=cl3 a9;simp at j C D;go_wp2_with fail;refine tb (.agg #[.i 7,.i 0,.i (k:Int)]) (by simp[results,B0d,go_sem,j,C,D]) ?_;rw[Ba Q];exact⟨rfl,((b8.setCell Fr _).setCell Fr _).setCell Fr _⟩
   | true =>
    have HG:Hid (Cd.inMaps T L (k+1) (f+1) ((c.map Prod.fst).drop (k+1))=r):=by unfold Hid;rw[<- Ba N,Pf b7];simp
    clear N;go_wp2_with fail;refine Qb (Ba HM) a8 ?_;intro w2 O b8;have f0:=stay O d3;have a9:=stay O b6;have f1:=stay O d2;have j:=Bb f1 0;simp at j;clear O a8 d3 b6 d2 K CB G m0 m1 m2 m3 m4 m5 m6 m7 m8 m9 c5 c6 c7 c8 c9 y0 y1 y2;go_wp2;go_roundw
    case rel=>exact⟨k+1,f+1,Bd,Lt,Lt,HG,b8,f0,a9⟩
    case measure=>simp[intOf];omega
  have Q:Hid (Fa=(0,0)):=by
   unfold Hid;rw[<- Ba HF,<- Ba B,Bvi Fm];rfl
  have kb:¬(k:Int)<(c.length:Int):=Bd;obtain⟨q0,q1,q2⟩:=fr3 G;obtain⟨j,C,D⟩:=cl3 G;simp at j C D;clear B;go_wp2_with fail;refine tb (.agg #[.i 0,.i 0,.i 0]) (by simp[results,B0d,go_sem,j,C,D]) ?_;rw[Ba Q];exact⟨rfl,((K.setCell Fr _).setCell Fr _).setCell Fr _⟩
namespace Cd
def Bjm(b:TI)(n:Int)(h:0<=n):hasM b n false=(decide (n<(b.length:Int))&&(b.getD n.toNat 0==255))/\hasM b n true=(decide (n<(b.length:Int))&&(b.getD n.toNat 0 != 255)):=by
 unfold hasM;have e:¬n<0:=Bd;simp only[Pf e];by_cases c:(b.length:Int)<=n;·have:decide (n<(b.length:Int))=false:=Fm;simp only[Sp c,this];simp
 have:decide (n<(b.length:Int))=true:=Fm;simp only[Pf c,this];cases f:(b.getD n.toNat 0 != 255)<;>simp_all
def argP_eq(T:TI)(m:Int)(f:TI)(p:Int)(c:TI)(op n:Int)(h:op=20\/op=21->0<=n):argP T m f p (insts c) op n=argB T m f p c op n:=by
 unfold argP argB;rw[find_beg];by_cases g:op=2\/op=3;·rw[Sp g,Sp g]
 rw[Pf g,Pf g];by_cases i:11<=op/\op<=14;·rw[Sp i,Sp i]
 rw[Pf i,Pf i];by_cases j:op=15\/op=16\/op=19;·rw[Sp j,Sp j]
 rw[Pf j,Pf j];by_cases l:op=17\/op=18;·rw[Sp l,Sp l]
 rw[Pf l,Pf l];by_cases b:op=20;·rw[Sp b,Sp b];exact(Bjm f n (h (.inl b))).1
 rw[Pf b,Pf b];by_cases e:op=21;·rw[Sp e,Sp e];exact(Bjm f n (h (.inr e))).2
 rw[Pf e,Pf e]
def Bqj(T c:TI)(k n:Int):mapTy T (insts c) k n=framed T c k n:=by
 unfold mapTy framed Tr.settledB Tr.plainB;by_cases b:k=4;·rw[Sp b,Bq0,Pf Bd,Pf Bd,Sp b]
 rw[Pf b];by_cases f:k=0\/k=2;·rw[Sp f,Sp Bd]
 rw[Pf f];by_cases g:k=1;·rw[Sp g,Sp Bd]
 have q:¬(k=0\/k=1\/k=2):=Bd;rw[Pf g,Pf q];by_cases e:k=3;·rw[Sp e,Sp e]
 rw[Pf e,Pf e,Pf b]
def Bef(T c:TI)(l:TP):mapTys T (insts c) l=frAll T c l:=by
 unfold mapTys frAll
 congr 1
 funext t
 exact Bqj T c t.1 t.2
def inMaps_eq(T c:TI)(l:List Rd.Mp):∀(i:Nat) (b:Int),inMaps T (insts c) i b l=mapsBad T c i (b-1) l:=by
 induction l with
 | nil=>intro i b;rfl
 | cons x r ih =>
  intro i b;rw[inMaps,mapsBad,ih];unfold mapMay;rw[find_beg,Bef,Bef];by_cases e:x.place<b;·rw[Sp e,Sp (show x.place<=b-1 by omega)];simp
  rw[Pf e,Pf (show ¬x.place<=b-1 by omega)];cases begB c x.place<;>cases frAll T c x.locals<;>cases frAll T c x.stack<;>simp
def hndMay_eq(m:Tr.Ok z)(A:1<z.length)(c:TI)(x:Rd.Hnd):hndMay z (insts c) (c.length:Int) x = !hndBad z c x:=by
 have p:Tr.within z x.cl 1=(if x.cl=1 then true else Tr.below z x.cl 1):=by
  unfold Tr.within;by_cases h:x.cl=1<;>simp[h]
 unfold hndMay hndBad;rw[find_beg,find_beg,find_beg,p];by_cases f:x.til<=x.frm;·rw[Sp f];simp[f]
 rw[Pf f];have q:decide (x.til<=x.frm)=false:=by simpa using f
 rw[q];cases begB c x.frm
 ·simp
 cases begB c x.target
 ·simp
 have s:(if x.cl=1 then true else Tr.below z x.cl 1)=(Tr.hasB z x.cl&&Tr.rbel z x.cl 1):=by
  by_cases i:Tr.hasB z x.cl=true
  ·rw[i,Bxn];have j:0<=x.cl/\x.cl<(z.length:Int):=by simpa[Tr.hasB] using i
   have e:=Tr.rbel_iff m (a:=x.cl) (b:=1) j.1 j.2 Bd;by_cases h:x.cl=1;·rw[Sp h];exact(e.2 (.inl h.symm)).symm
   rw[Pf h];refine Bool.eq_iff_iff.2 ⟨fun g=>e.2 (.inr g),fun g=>?_⟩;rcases e.1 g with g|g
   ·exact absurd g.symm h
   exact g
  have t:Tr.hasB z x.cl=false:=by simpa using i
  rw[t,Bx0];have B:¬(0<=x.cl/\x.cl<(z.length:Int)):=by simpa[Tr.hasB] using i
  rw[Pf Bd];have v:Tr.ov z x.cl = -1:=by
   unfold Tr.ov;by_cases g:x.cl<0;·rw[Sp g]
   rw[Pf g,Sp Bd]
  unfold Tr.below;rw[v];cases z.length<;>simp[Tr.upTo]
 rw[s];by_cases l:x.til=(c.length:Int);·cases begB c x.til<;>cases Tr.hasB z x.cl<;>cases Tr.rbel z x.cl 1<;>simp[l]
 cases begB c x.til<;>cases Tr.hasB z x.cl<;>cases Tr.rbel z x.cl 1<;>simp[l]
def Bhl(a b:List Rd.Cls):fieldSum (a++b)=fieldSum a+fieldSum b:=by
 induction a with
 | nil=>simp[fieldSum]
 | cons x r ih=>rw[Bws,fieldSum,fieldSum,ih];omega
def fields_eq(T:TI)(b:List Rd.Cls)(j:Nat)(f:j<=b.length):(Rf.fieldsTo T (Rf.given++b) j).length=fieldSum (b.take j):=by
 induction j with
 | zero=>simp[Rf.fieldsTo,fieldSum]
 | succ k ih =>
  have c:k<b.length:=Bd;have e:(Rf.given++b).getD (7+k) ⟨0,[]⟩=b[k]:=by
   rw[Th,Bvt (by simp[Rf.given])];simp[Rf.given,c]
  rw[Rf.fieldsTo,Up,Rf.ownOf,Oz,e,ih Bd,Bvs c,Bhl];simp[fieldSum]
end Cd
def Kt (f:Cd.Ins->Bool):List Cd.Ins->Int
 | []=>-1
 | x::r=>if f x=true then x.place else Kt f r
def Nj (T:TI)(nf:Int)(ow:TI)(lo:Int)(L:List Cd.Ins)(x:Cd.Ins):Bool:=!Cd.argP T nf ow lo L x.op x.n
def Pz (T:TI)(L:List Cd.Ins)(cn:Int)(x:Rd.Hnd):Bool:=!Cd.hndMay T L cn x
def Ot (T:TI)(nf:Int)(ow:TI)(m:Rd.Mth):Int × Int :=
 if 0<=Cd.unread m.code then (5,Cd.unread m.code)
 else if 0<=Kt (Nj T nf ow m.locals (Cd.insts m.code)) (Cd.insts m.code) then (5,Kt (Nj T nf ow m.locals (Cd.insts m.code)) (Cd.insts m.code))
 else if 0<=Cd.firstIx (Pz T (Cd.insts m.code) (m.code.length:Int)) 0 m.handlers then (6,Cd.firstIx (Pz T (Cd.insts m.code) (m.code.length:Int)) 0 m.handlers)
 else Cd.faultOf (Cd.inMaps T (Cd.insts m.code) 0 0 m.maps)
def Hk (T:TI)(nf:Int)(ow:TI):Nat->List Rd.Mth->Int × Int × Int
 | _,[]=>(0,0,0)
 | k,m::r=>if (Ot T nf ow m).1≠0 then ((Ot T nf ow m).1,(k:Int),(Ot T nf ow m).2) else Hk T nf ow (k+1) r
def Pj (T:TI)(r1 r2:Int):Bool:=if r1=0/\r2=0 then true else Tr.plainB T r1 r2
def M7 (a b:Rd.Mth):Bool:=if a.result≠b.result then false else decide (a.params=b.params)
def Py (T:TI)(m:Rd.Mth):Bool :=
 if Tr.allPlainB T m.params=false then false else if Pj T m.result.1 m.result.2=false then false
 else if m.cl=255 then (if m.name=0 then decide ((m.params.length:Int)<=m.locals) else false)
 else if m.cl<7 then false else if Tr.hasB T m.cl=false then false else decide ((m.params.length:Int)<m.locals)
def Mh (m o:Rd.Mth):Bool:=(o.cl==m.cl)&&(o.name==m.name)
def In (T:TI)(m o:Rd.Mth):Bool:=(o.name==m.name)&&(Tr.below T m.cl o.cl && !M7 o m)
def Si (es:List Rd.Mth)(m:Rd.Mth):Bool:=if m.cl=255 then false else es.any (Mh m)
def Mi (T:TI)(ms:List Rd.Mth)(m:Rd.Mth):Bool:=if m.cl=255 then false else ms.any (In T m)
def Vg (T:TI)(ms:List Rd.Mth)(k:Nat)(m:Rd.Mth):Bool :=
 if Py T m=false then true else if Si (ms.take k) m=true then true else Mi T ms m
def Jq (T:TI)(ms:List Rd.Mth):Nat->List Rd.Mth->Int
 | _,[]=>-1
 | k,m::r=>if Vg T ms k m=true then (k:Int) else Jq T ms (k+1) r
def X9 (T:TI)(nf:Int)(ms:List Rd.Mth):Int × Int × Int :=
 if 0<=Jq T ms 0 ms then (4,Jq T ms 0 ms,0) else Hk T nf (ms.map Rd.Mth.cl) 0 ms
def Ni (f:Rd.Fil):Int × Int × Int :=
 if (Tr.inCl (Tr.tree f.classes) 0 f.classes).1≠0 then ((Tr.inCl (Tr.tree f.classes) 0 f.classes).1,(Tr.inCl (Tr.tree f.classes) 0 f.classes).2,0)
 else X9 (Tr.tree f.classes) (Cd.fieldSum f.classes:Int) f.methods
def Ft (s:TB):Int × Int × Int:=if (Rd.read s).2≠0 then ((Rd.read s).2,0,0) else Ni (Rd.read s).1
def An{f:Nat->Bool}{l:List Nat}(h:Cd.first f l<0):∀p∈l,f p=false:=by
 induction l with
 | nil=>simp
 | cons p r ih =>
  obtain⟨c,e⟩:=Bet h;intro q b;simp only[Bxy]at b;rcases b with rfl|b
  ·exact c
  exact ih e q b
def Brc{c:Int}{e:TI}{B:Int}{b:TI}{op:Int}(h:Cd.wd op=1)(n f:Int):Cd.argB z c e B b op n=Cd.argB z c e B b op f:=by
 unfold Cd.wd at h;have i:¬(op=0\/op=2\/op=3\/(11<=op/\op<=21)):=by
  intro g;rw[Sp g]at h;omega
 unfold Cd.argB;rw[Pf Bd,Pf Bd,Pf Bd,Pf Bd,Pf Bd,Pf Bd];rw[Pf Bd,Pf Bd,Pf Bd,Pf Bd,Pf Bd,Pf Bd]
def Yy(b:∀x∈z,0<=x)(i:Nat):0<=z.getD i 0:=by
 rw[Th];by_cases h:i<z.length;·rw[Ws h];exact b _ (Bvh h)
 rw[Bwz Bd];simp
def Blc{c:Int}{e:TI}{B:Int}{b:TI}(j:∀x∈b,0<=x)(f:List Nat)(g:∀p∈f,Cd.noRead b p=false):Kt (Nj z c e B (Cd.insts b)) (f.map (Cd.insAt b))=Cd.first (Cd.badArg z c e B b) f:=by
 induction f with
 | nil=>rfl
 | cons p r ih =>
  rw[Bwm,Kt,Cd.first,ih (fun q l=>g q (Bv6 _ l))]
  have h:=g p (Bv1 ..);unfold Cd.noRead at h;simp only[Bxo,Bxb]at h;have m:Nj z c e B (Cd.insts b) (Cd.insAt b p)=Cd.badArg z c e B b p:=by
   unfold Nj Cd.badArg Cd.argAt Cd.insAt;simp only;have s:=Cd.wd_bd (b.getD p 0);by_cases i:Cd.wd (b.getD p 0)=2;·rw[Sp i,Cd.argP_eq z c e B b _ _ (fun _=>Yy j _)];unfold Cd.nAt;rw[Sp Bd]
   rw[Pf i,Cd.argP_eq z c e B b _ _ (fun _=>Bd),Brc Bd 0 (Cd.nAt b p)]
  rw[m];rfl
def Blb{α:Type}{f g:α->Bool}(h:∀x,f x=g x)(l:List α):∀k,Cd.firstIx f k l=Cd.firstIx g k l:=by
 induction l with
 | nil=>intro k;rfl
 | cons x r ih=>intro k;rw[Cd.firstIx,Cd.firstIx,h x,ih]
def Bs7(i:Tr.Ok z)(j:1<z.length)(c:Int)(e:TI)(m:Rd.Mth)(l:∀x∈m.code,0<=x):Ot z c e m=Ou z c e m:=by
 unfold Ot Ou Cd.badCode;by_cases b:0<=Cd.unread m.code;·rw[Sp b,Sp b,Sp b]
 rw[Pf b,Pf b];have p:Kt (Nj z c e m.locals (Cd.insts m.code)) (Cd.insts m.code)=Cd.first (Cd.badArg z c e m.locals m.code) (Cd.places m.code) :=
  Blc l (Cd.places m.code) (An (by unfold Cd.unread at b;omega))
 have s:Cd.firstIx (Pz z (Cd.insts m.code) (m.code.length:Int)) 0 m.handlers=Cd.firstIx (Cd.hndBad z m.code) 0 m.handlers :=
  Blb (fun x=>by unfold Pz;rw[Cd.hndMay_eq i j];simp) m.handlers 0
 rw[p,s,Cd.inMaps_eq];by_cases f:0<=Cd.first (Cd.badArg z c e m.locals m.code) (Cd.places m.code)
 ·rw[Sp f,Sp f]
 rw[Pf f,Pf f];by_cases g:0<=Cd.firstIx (Cd.hndBad z m.code) 0 m.handlers;·rw[Sp g,Sp g]
 rw[Pf g,Pf g];rw[show ((0:Int)-1) = -1 from rfl];generalize Cd.mapsBad z m.code 0 (-1) m.maps=q;unfold Cd.faultOf;by_cases h:q<0;·rw[Sp h,Pf Bd]
 rw[Pf h,Sp Bd]
def Boq(f:Tr.Ok z)(g:1<z.length)(b:Int)(c:TI)(l:List Rd.Mth)(e:∀m∈l,∀x∈m.code,0<=x):∀k,Hk z b c k l=Jy z b c k l:=by
 induction l with
 | nil=>intro k;rfl
 | cons m r ih =>
  intro k;rw[Hk,Jy,Bs7 f g b c m (e m (Bv1 ..)),ih (fun x h=>e x (Bv6 _ h))]
def Bll(b:Tr.Ok z){a:Int}(c:0<=a)(e:a<(z.length:Int)):Tr.below z a a=false:=by
 cases h:Tr.below z a a with
 | false=>rfl
 | true=>have:=Tr.below_lt b c e h;omega
def Bor(c:Tr.Ok z){a B:Int}(e:0<=B)(f:a<(z.length:Int))(g:a<=B):Tr.below z a B=false:=by
 cases h:Tr.below z a B with
 | false=>rfl
 | true=>have:=Tr.below_lt c e f h;omega
def Bq6(f:Tr.Ok z)(A:z.length<=200)(m o:Rd.Mth)(l:0<=m.cl)(h:m.cl<(z.length:Int))(q:0<=o.cl)(k i:Nat):Oe z m.cl m.name m.result.1 m.result.2 m.params k i o=((decide (i<k)&&Mh m o)||In z m o):=by
 unfold Oe Mh In;by_cases c:o.name≠m.name
 ·rw[Sp c];have:(o.name==m.name)=false:=by simpa using c
  rw[this];simp
 rw[Pf c];have s:(o.name==m.name)=true:=by simpa using c
 rw[s];by_cases j:o.cl=255;·rw[Sp j,j,Bor f Bd h Bd];have:((255:Int)==m.cl)=false:=Fm;rw[this];simp
 rw[Pf j];by_cases b:o.cl=m.cl;·rw[Sp b,b,Bll f l h];simp
 rw[Pf b];have t:(o.cl==m.cl)=false:=by simpa using b
 have v:Tr.rbel z m.cl o.cl=Tr.below z m.cl o.cl:=by
  have e:=Tr.rbel_iff f l h q;refine Bool.eq_iff_iff.2 ⟨fun g=>?_,fun g=>e.2 (.inr g)⟩;rcases e.1 g with g|g
  ·exact absurd g b
  exact g
 rw[t,v];unfold M7;by_cases p:o.result=m.result;·simp[p]
 simp[p]
def Bsc(e:Tr.Ok z)(f:z.length<=200)(m:Rd.Mth)(g:0<=m.cl)(h:m.cl<(z.length:Int))(k:Nat)(l:List Rd.Mth)(b:∀o∈l,0<=o.cl):∀i,Jg z m.cl m.name m.result.1 m.result.2 m.params k i l=(!(l.take (k-i)).any (Mh m) && !l.any (In z m)):=by
 induction l with
 | nil=>intro i;simp[Jg]
 | cons o r ih =>
  intro i;rw[Jg,Bq6 e f m o g h (b o (Bv1 ..)),ih (fun x j=>b x (Bv6 _ j))];by_cases c:i<k
  ·rw[show k-i=(k-(i+1))+1 by omega,Byq,Byb,Byb];have:decide (i<k)=true:=by simpa using c
   rw[this];cases Mh m o<;>cases In z m o<;>simp
  rw[show k-i=0 by omega,show k-(i+1)=0 by omega,Byb];have:decide (i<k)=false:=by simpa using c
  rw[this];cases In z m o<;>simp
def Bsz(l:Tr.Ok z)(p:z.length<=200)(e:List Rd.Mth)(q:∀o∈e,0<=o.cl)(k:Nat)(m:Rd.Mth)(C:0<=m.cl):Vg z e k m = !Ip z e k m:=by
 unfold Vg Ip Rx Py Pj Si Mi Yf Nn;cases D:Tr.allPlainB z m.params with
 | false=>simp
 | true =>
  have s:(if m.result.1=0/\m.result.2=0 then true else Tr.plainB z m.result.1 m.result.2) = !(!Tr.plainB z m.result.1 m.result.2 && !decide ((m.result.1,m.result.2)=((0:Int),(0:Int)))):=by
   by_cases h:m.result.1=0/\m.result.2=0;·rw[Sp h];simp[h]
   rw[Pf h];have:decide ((m.result.1,m.result.2)=((0:Int),(0:Int)))=false:=by simpa using h
   rw[this];simp
  rw[s];generalize (!Tr.plainB z m.result.1 m.result.2 && !decide ((m.result.1,m.result.2)=((0:Int),(0:Int))))=R;cases R with
  | true=>simp
  | false =>
   by_cases c:m.cl=255
   ·simp only[Sp c];by_cases b:m.name=0
    ·by_cases f:(m.params.length:Int)<=m.locals;·have g:¬m.locals<(m.params.length:Int):=Bd;simp[c,b,f,g]
     have g:m.locals<(m.params.length:Int):=Bd;simp[c,b,f,g]
    simp[b]
   simp only[Pf c];by_cases b:m.cl<7;·simp[b]
   cases f:Tr.hasB z m.cl with
   | false=>simp[b]
   | true =>
    have i:0<=m.cl/\m.cl<(z.length:Int):=by simpa[Tr.hasB] using f
    by_cases j:(m.params.length:Int)<m.locals;·have t:¬m.locals<(m.params.length:Int):=Bd;have v:¬m.locals=(m.params.length:Int):=Bd;rw[Bsc l p m i.1 i.2 k e q 0];simp only[Nat.sub_zero];cases (e.take k).any (Mh m)<;>cases e.any (In z m)<;>simp[c,b,j,t,v]
    by_cases A:m.locals<(m.params.length:Int);·simp[c,b,j,A]
    have B:m.locals=(m.params.length:Int):=Bd;simp[c,b,B]
def Bqu(e:Tr.Ok z)(f:z.length<=200)(b:List Rd.Mth)(g:∀o∈b,0<=o.cl)(l:List Rd.Mth)(c:∀o∈l,0<=o.cl):∀k,Jq z b k l=Ho z b k l:=by
 induction l with
 | nil=>intro k;rfl
 | cons m r ih =>
  intro k;rw[Jq,Ho,Bsz e f b g k m (c m (Bv1 ..)),ih (fun x h=>c x (Bv6 _ h))];cases Ip z b k m<;>simp
def Bjb(e:Tr.Ok z)(g:z.length<=200)(h:1<z.length)(c:Int)(b:List Rd.Mth)(f:∀o∈b,0<=o.cl)(i:∀m∈b,∀x∈m.code,0<=x):X9 z c b=Tx z c b:=by
 unfold X9 Tx;rw[Bqu e g b f b f,Boq e h c _ b i]
structure Uy(m:Rd.Mth):Prop where
 ps:m.params.length<=8
 code:m.code.length<=120
 code0:∀x∈m.code,0<=x
 hs:m.handlers.length<=4
 mp:m.maps.length<=64
 fr:∀p∈m.maps,p.locals.length<=8/\p.stack.length<=8/\0<=p.place/\p.place<=255
 cl:0<=m.cl
def Bu6(s:TB)(L H:Int)(c:L<=8)(b:0<=H)(e:H<=8)(t:Rd.St):(Rd.mp s L H t).1.locals.length<=8/\(Rd.mp s L H t).1.stack.length<=8/\0<=(Rd.mp s L H t).1.place/\(Rd.mp s L H t).1.place<=255:=by
 simp only[Rd.mp,Rd.tys,Rd.rep_len];have:=Rd.cn_bd s 0 H (Rd.rep (Rd.ty s) L.toNat (Rd.nx s t).2).2 b;have:=Rd.nx_bd s t;omega
def Br8(s:TB)(t:Rd.St):Uy (Rd.mth s t).1:=by
 simp only[Rd.mth];generalize (Rd.nx s (Rd.nx s t).2).2=b;have i:=Rd.cn_bd s 0 4 b Bd;generalize Rd.cn s 0 4 b=p at *;generalize (Rd.tys s p.1.toNat p.2).2=f;generalize (Rd.ty s f).2=c;have g:=Rd.cn_bd s 0 8 c Bd;generalize Rd.cn s 0 8 c=l at *;have e:=Rd.cn_bd s 0 8 l.2 Bd;generalize Rd.cn s 0 8 l.2=h at *;refine⟨?_,?_,?_,?_,?_,?_,?_⟩
 ·simp only[Rd.tys,Rd.rep_len];omega
 ·simp only[Rd.codes,Rd.rep_len];have:=Rd.cn_bd s 1 120 h.2 Bd;omega
 ·simp only[Rd.codes];exact Sb (fun x:Int=>0<=x) _ (fun t=>Bgp s t) _ _
 ·simp only[Rd.hnds,Rd.rep_len];have:=Rd.cn_bd s 0 4 (Rd.codes s h.2).2 Bd;omega
 ·simp only[Rd.mps,Rd.rep_len];have:=Rd.cn_bd s 0 64 (Rd.hnds s (Rd.codes s h.2).2).2 Bd;omega
 ·simp only[Rd.mps];exact Sb (fun p:Rd.Mp=>p.locals.length<=8/\p.stack.length<=8/\0<=p.place/\p.place<=255) _ (fun t=>Bu6 s l.1 h.1 g.2 e.1 e.2 t) _ _
 exact Bgp s t
def Vx(s:TB):(Rd.read s).1.methods.length<=6/\∀m∈(Rd.read s).1.methods,Uy m:=by
 unfold Rd.read
 split
 ·simp
 split
 ·simp
 simp only[Rd.fil];refine⟨?_,Sb Uy _ (fun t=>Br8 s t) _ _⟩;rw[Rd.rep_len];have:=Rd.cn_bd s 1 6 (Rd.rep (Rd.cls s) (Rd.cn s 0 6 (Rd.ex s 77 (Rd.ex s 83 ⟨0,false⟩))).1.toNat (Rd.cn s 0 6 (Rd.ex s 77 (Rd.ex s 83 ⟨0,false⟩))).2).2 Bd;omega
def Bn2(l:TI)(b:List Rd.Cls):∀k:Nat,((Tr.inCl l k b).1=0\/(Tr.inCl l k b).1=3)/\0<=(Tr.inCl l k b).2:=by
 induction b with
 | nil=>intro k;exact⟨.inl rfl,by show (0:Int)<=0;omega⟩
 | cons c r ih =>
  intro k;unfold Tr.inCl
  split
  ·exact⟨.inr rfl,by show (0:Int)<=7+(k:Int);omega⟩
  split
  ·exact⟨.inr rfl,by show (0:Int)<=7+(k:Int);omega⟩
  exact ih _
def M3(s:TB):Ft s=Rf.formed s:=by
 obtain⟨b,z⟩:=Bbd s;have f:=Blg s;obtain⟨A,j⟩:=Vx s;obtain⟨B,_⟩:=Xt s;unfold Ft Rf.formed Rf.nf;unfold Rf.classed at f ⊢;by_cases g:15000<s.length;·rw[Sp g]at b;rw[b];simp[g]
 rw[Pf g]at b;simp only[Pf g]at f ⊢;by_cases i:(Rf.fil s).2.2≠(s.length:Int);·rw[Sp i]at b;rw[b];simp[i]
 rw[Pf i]at b;simp only[Pf i]at f ⊢;rw[Pf (by rw[b];simp)];obtain⟨p,q⟩:=z b;unfold Ni;rw[p]at B;rw[q]at A j;rw[p,q];have t:=Bn2 (Tr.tree (Rf.fil s).1) (Rf.fil s).1 0;have v:=Cd.fields_eq (Tr.tree (Rf.fil s).1) (Rf.fil s).1 (Rf.fil s).1.length (Wf _);rw[Byk]at v;rw[v];generalize J:Tr.inCl (Tr.tree (Rf.fil s).1) 0 (Rf.fil s).1=I at *;by_cases c:I.1=0
 ·have l:¬0<=Tr.badOf I:=by unfold Tr.badOf;rw[Sp c];omega
  simp only[Pf l]at f ⊢;rw[Pf (fun h=>h c),Pf Fr];have C:=(f trivial).1;have K:=Ix (Rf.fil s).1;exact Bjb C Bd Bd _ _ (fun o D=>(j o D).cl) (fun m F=>(j m F).code0)
 have l:0<=Tr.badOf I:=by unfold Tr.badOf;rw[Pf c];exact t.2
 have e:Tr.badOf I=I.2:=by unfold Tr.badOf;rw[Pf c]
 have G:I.1=3:=t.1.resolve_left c;rw[Sp c,Sp l,Sp Fr,e,G]
structure PM where
 cl:Int
 nm:Int
 pa:Option Addr
 pl:Nat
 pc:Nat
 r1:Int
 r2:Int
 lo:Int
 st:Int
 ca:Option Addr
 cn:Nat
 cc:Nat
 ha:Option Addr
 hl:Nat
 hc:Nat
 ma:Option Addr
 ml:Nat
 mc:Nat
def PM.val(m:PM):Value:=.agg #[.int .i64 m.cl,.int .i64 m.nm,.slice m.pa m.pl m.pc,.int .i64 m.r1,.int .i64 m.r2,.int .i64 m.lo,.int .i64 m.st,.slice m.ca m.cn m.cc,.slice m.ha m.hl m.hc,.slice m.ma m.ml m.mc]
def PM.list(m:PM):List Value:=[.int .i64 m.cl,.int .i64 m.nm,.slice m.pa m.pl m.pc,.int .i64 m.r1,.int .i64 m.r2,.int .i64 m.lo,.int .i64 m.st,.slice m.ca m.cn m.cc,.slice m.ha m.hl m.hc,.slice m.ma m.ml m.mc]
structure PM.is(m:PM)(x:Rd.Mth)(w:World)(bb:Nat):Prop where
 cl:m.cl=x.cl
 nm:m.nm=x.name
 r1:m.r1=x.result.1
 r2:m.r2=x.result.2
 lo:m.lo=x.locals
 st:m.st=x.stack
 pl:m.pl=x.params.length
 ps:Dp w bb (.slice m.pa m.pl m.pc) x.params
 cn:m.cn=x.code.length
 code:Du w bb (.slice m.ca m.cn m.cc) x.code
 hl:m.hl=x.handlers.length
 hs:J5 w bb (.slice m.ha m.hl m.hc) x.handlers
 ml:m.ml=x.maps.length
 mp:Bru w bb (.slice m.ma m.ml m.mc) x.maps
def PM.is.kp{m:PM}{x:Rd.Mth}{b:TW}(h:m.is x w u){e:Option TypeId}(c:Kp e u w b)(f:some 31≠e)(g:some 3≠e)(i:some 267≠e)(j:some 266≠e):m.is x b u:=by
 obtain⟨p,q,s,t,v,z,A,B,C,D,F,G,I,l,J,K⟩:=h;exact⟨p,q,s,t,v,z,A,B.kp c f,C,D.kp c g,F,G.kp c i,I,l,J,K.kp c j f⟩
def PM.is.below{m:PM}{x:Rd.Mth}{b:TW}(h:m.is x w u)(c:Bl w b):m.is x b u:=h.kp (Kp.of_below (e:=none) c) Ck Ck Ck Ck
def Bp7(l:List (Rd.Mth×Eh))(k:Nat)(b:k<l.length)(j:Nat)(c:j<10):(Kw l)[k*10+j]?=(Ly l[k].1 l[k].2)[j]?/\k*10+j<(Kw l).length:=by
 refine⟨M5 (fun x:Rd.Mth×Eh=>Ly x.1 x.2) 10 (fun _=>rfl) l k b j c,?_⟩;unfold Kw;rw[Kq (fun x:Rd.Mth×Eh=>Ly x.1 x.2) 10 (fun _=>rfl) l];omega
theorem Eb.mth{w:World}{a:Option Addr}{n j:Nat}{L:List (Rd.Mth×Eh)}(h:Eb w u (.slice a n j) L){k:Nat}(A:k<L.length):∃(m:PM) (g:Nat),a=some ⟨g,0,none⟩/\g<w.heap.size/\(∀e v,m.list[e]?=some v->w.cell? ⟨g,k*10+e,none⟩=some v)/\m.is L[k].1 w u:=by
 obtain⟨B,I⟩:=h;obtain⟨xa,xc,C⟩:=Bg B;simp only[Value.slice.injEq]at C;obtain⟨rfl,rfl,rfl⟩:=C;obtain⟨g,J,K,_,N⟩:=Cf B Bd;obtain⟨i,p,q,s,D,t⟩:=I _ (Bvh A);have F:=fun e z=>Bp7 L k A e z;generalize L[k]=x at *;obtain⟨x,f⟩:=x;obtain⟨up,uc,uh,um⟩:=f;simp only at i p q t F;obtain⟨O,Q,rfl⟩:=Bg i;obtain⟨V,Y,rfl⟩:=Bg p;obtain⟨Z,a0,rfl⟩:=Bg q;obtain⟨ma,mc,rfl⟩:=Bg t.1;have a1:s.length=x.maps.length:=by rw[<- D];simp
 refine⟨⟨x.cl,x.name,O,x.params.length,Q,x.result.1,x.result.2,x.locals,x.stack,V,x.code.length,Y,Z,x.handlers.length,a0,ma,s.length,mc⟩,g,J,K,?_,⟨rfl,rfl,rfl,rfl,rfl,rfl,rfl,i,rfl,p,rfl,q,a1,s,D,t⟩⟩;intro e v G;have z:e<10:=by
  have:=(List.getElem?_eq_some_iff.1 G).1;simpa[PM.list] using this
 obtain⟨e1,e2⟩:=F e z;rw[N _ e2,e1,<- G];rfl
def Ub{m:PM}{k:Nat}(h:∀j v,m.list[j]?=some v->w.C u (k*10+j) v):w.C u (k*10) (.i m.cl)/\w.C u (k*10+1) (.i m.nm)/\w.C u (k*10+2) (.s m.pa m.pl m.pc)/\w.C u (k*10+3) (.i m.r1)/\w.C u (k*10+4) (.i m.r2)/\w.C u (k*10+5) (.i m.lo)/\w.C u (k*10+6) (.i m.st)/\w.C u (k*10+7) (.s m.ca m.cn m.cc)/\w.C u (k*10+8) (.s m.ha m.hl m.hc)/\w.C u (k*10+9) (.s m.ma m.ml m.mc) :=
 ⟨h 0 _ rfl,h 1 _ rfl,h 2 _ rfl,h 3 _ rfl,h 4 _ rfl,h 5 _ rfl,h 6 _ rfl,h 7 _ rfl,h 8 _ rfl,h 9 _ rfl⟩
variable {ya:Option Addr}{yn yc:Nat}
def Bfd(T:TI)(a:TA)(f:Nat)(k n:Int)(w:TW):Calls prog 211 #[.agg #[.s a T.length f,.s ya yn yc],.agg #[.i k,.i n]] w fun e l=>e=.r (.bool (Pj T k n))/\Bl w l:=by
 have g:=fun w=>Ue (ya:=ya) (yn:=yn) (yc:=yc) T a f k n w;unfold Pj;generalize Tr.plainB T k n=P at *;have j:=Bc g;clear g;by_cases h:k=0/\n=0;·rw[Sp h];obtain⟨rfl,rfl⟩:=h;go_in;go_wp2;go_ret;exact⟨rfl,Bx _ _ _⟩
 rw[Pf h];by_cases b:k=0
 ·subst b;have m:(n==0)=false:=by simpa using h
  clear h;go_in;go_wp2_with fail;refine Qm (Ba j _) ?_;intro p c;go_wp2;go_ret;exact⟨rfl,(Bx _ _ _).trans (c.mono Fm)⟩
 have m:(k==0)=false:=by simpa using b
 clear h b;go_in;go_wp2_with fail;refine Qm (Ba j _) ?_;intro p c;go_wp2;go_ret;exact⟨rfl,(Bx _ _ _).trans (c.mono Fm)⟩
def Bir(T:TI)(a:TA)(Z bb:Nat)(m:PM)(x:Rd.Mth)(w:TW)(V:m.is x w bb)(a6:x.params.length<=1000):Calls prog 159 #[.agg #[.s a T.length Z,.s ya yn yc],m.val] w fun e w'=>e=.r (.bool (Py T x))/\Bl w w':=by
 have hA:=fun w' (h:Bl w w')=>Wk (ya:=ya) (yn:=yn) (yc:=yc) T a Z m.pa m.pl m.pc bb x.params w' a6 (V.below h).ps;have hR:=fun w=>Bfd (ya:=ya) (yn:=yn) (yc:=yc) T a Z m.r1 m.r2 w;have hH:=fun w=>Bdf (ya:=ya) (yn:=yn) (yc:=yc) T a Z m.cl w;generalize b:Py T x=R;unfold Py at b;rw[<- V.cl,<- V.nm,<- V.r1,<- V.r2,<- V.lo,<- V.pl]at b;generalize Tr.allPlainB T x.params=A at *;clear V a6;obtain⟨O,nm,pa,pl,pc,r1,r2,lo,st,ca,cn,cc,ha,hl,hc,ma,ml,mc⟩:=m;simp only[PM.val]at hA hR hH b ⊢;generalize Pj T r1 r2=B at *;generalize Tr.hasB T O=K at *;have HA:=Bc hA;have HR:=Bc hR;have HH:=Bc hH;clear hA hR hH;have Y:=Bx w (O2 a T.length Z ya yn yc) (O18 O nm pa pl pc r1 r2 lo st ca cn cc ha hl hc ma ml mc);have a1:=Cb w (O2 a T.length Z ya yn yc) (O18 O nm pa pl pc r1 r2 lo st ca cn cc ha hl hc ma ml mc);have a2:=Bv w (O2 a T.length Z ya yn yc) (O18 O nm pa pl pc r1 r2 lo st ca cn cc ha hl hc ma ml mc);have a0:=Bc (Ba HA _ Y);clear HA;cases A with
 | false =>
  have G:Hid (R=false):=by unfold Hid;rw[<- b];simp
  clear b;go_in;go_wp2_with fail;refine Qm (Ba a0) ?_;intro w1 z;go_wp2;go_ret;exact⟨by rw[Ba G];rfl,QB Y z⟩
 | true =>
  cases B with
  | false =>
   have G:Hid (R=false):=by unfold Hid;rw[<- b];simp
   clear b;go_in;go_wp2_with fail;refine Qb (Ba a0) Y ?_;intro w1 z L;have I:=stay z a1;have F:=stay z a2;obtain⟨C,D⟩:=cl2 I;simp at C D;obtain⟨c,f,g,i,j,l,p,q,t,v⟩:=N7 F;simp at c f g i j l p q t v;go_wp2_with fail;refine Qm (Ba HR _) ?_;intro w2 J;go_wp2;go_ret;exact⟨by rw[Ba G];rfl,QB L J⟩
  | true =>
   have a3:Hid ((if O=255 then (if nm=0 then decide ((pl:Int)<=lo) else false) else if O<7 then false else if K=false then false else decide ((pl:Int)<lo))=R):=by unfold Hid;rw[<- b];simp
   clear b;by_cases h1:O=255
   ·subst h1;have b:=Ba a3;rw[Sp rfl]at b;clear a3;by_cases h2:nm=0;·subst h2;rw[Sp rfl]at b;have G:=Bc b;clear b;go_in;go_wp2_with fail;refine Qb (Ba a0) Y ?_;intro w1 z L;have I:=stay z a1;have F:=stay z a2;obtain⟨C,D⟩:=cl2 I;simp at C D;obtain⟨c,f,g,i,j,l,p,q,t,v⟩:=N7 F;simp at c f g i j l p q t v;go_wp2_with fail;refine Qb (Ba HR _) L ?_;intro w2 J Q;have N:=stay J F;clear c f g i j l p q t v;obtain⟨c,f,g,i,j,l,p,q,t,v⟩:=N7 N;simp at c f g i j l p q t v;go_wp2;go_ret;exact⟨by rw[<- Ba G];rfl,Q⟩
    rw[Pf h2]at b;have a9:(nm==0)=false:=by simpa using h2
    have G:=Bc b;clear b h2;go_in;go_wp2_with fail;refine Qb (Ba a0) Y ?_;intro w1 z L;have I:=stay z a1;have F:=stay z a2;obtain⟨C,D⟩:=cl2 I;simp at C D;obtain⟨c,f,g,i,j,l,p,q,t,v⟩:=N7 F;simp at c f g i j l p q t v;go_wp2_with fail;refine Qb (Ba HR _) L ?_;intro w2 J Q;have N:=stay J F;clear c f g i j l p q t v;obtain⟨c,f,g,i,j,l,p,q,t,v⟩:=N7 N;simp at c f g i j l p q t v;go_wp2;go_ret;exact⟨by rw[<- Ba G];rfl,Q⟩
   have b:=Ba a3;rw[Pf h1]at b;have b0:(O==255)=false:=by simpa using h1
   clear a3 h1;by_cases h2:O<7;·rw[Sp h2]at b;have G:=Bc b;clear b;go_in;go_wp2_with fail;refine Qb (Ba a0) Y ?_;intro w1 z L;have I:=stay z a1;have F:=stay z a2;obtain⟨C,D⟩:=cl2 I;simp at C D;obtain⟨c,f,g,i,j,l,p,q,t,v⟩:=N7 F;simp at c f g i j l p q t v;go_wp2_with fail;refine Qb (Ba HR _) L ?_;intro w2 J Q;have N:=stay J F;clear c f g i j l p q t v;obtain⟨c,f,g,i,j,l,p,q,t,v⟩:=N7 N;simp at c f g i j l p q t v;go_wp2;go_ret;exact⟨by rw[<- Ba G];rfl,Q⟩
   rw[Pf h2]at b;cases K with
   | false =>
    rw[Sp rfl]at b;have G:=Bc b;clear b;go_in;go_wp2_with fail;refine Qb (Ba a0) Y ?_;intro w1 z L;have I:=stay z a1;have F:=stay z a2;obtain⟨C,D⟩:=cl2 I;simp at C D;obtain⟨c,f,g,i,j,l,p,q,t,v⟩:=N7 F;simp at c f g i j l p q t v;go_wp2_with fail;refine Qb (Ba HR _) L ?_;intro w2 J Q;have N:=stay J F;have a4:=stay J I;clear c f g i j l p q t v C D;obtain⟨C,D⟩:=cl2 a4;simp at C D;obtain⟨c,f,g,i,j,l,p,q,t,v⟩:=N7 N;simp at c f g i j l p q t v;go_wp2_with fail;refine Qm (Ba HH _) ?_;intro w3 a5;go_wp2;go_ret;exact⟨by rw[<- Ba G];rfl,QB Q a5⟩
   | true =>
    rw[Pf Fr]at b;have G:=Bc b;clear b;go_in;go_wp2_with fail;refine Qb (Ba a0) Y ?_;intro w1 z L;have I:=stay z a1;have F:=stay z a2;obtain⟨C,D⟩:=cl2 I;simp at C D;obtain⟨c,f,g,i,j,l,p,q,t,v⟩:=N7 F;simp at c f g i j l p q t v;go_wp2_with fail;refine Qb (Ba HR _) L ?_;intro w2 J Q;have N:=stay J F;have a4:=stay J I;clear c f g i j l p q t v C D;obtain⟨C,D⟩:=cl2 a4;simp at C D;obtain⟨c,f,g,i,j,l,p,q,t,v⟩:=N7 N;simp at c f g i j l p q t v;go_wp2_with fail;refine Qb (Ba HH _) Q ?_;intro w3 a5 a7;have a8:=stay a5 N;clear c f g i j l p q t v C D;obtain⟨c,f,g,i,j,l,p,q,t,v⟩:=N7 a8;simp at c f g i j l p q t v;go_wp2;go_ret;exact⟨by rw[<- Ba G];rfl,a7⟩
def Bk4(b:List Rd.Mth)(ea:TA)(ec:Nat)(m:PM)(x:Rd.Mth)(w:TW)(I:m.cl=x.cl)(a2:m.nm=x.name)(c5:b.length<=1000) (HM:∀l,Bl w l->∀k (hk:k<b.length),∃(o:PM) (g:Nat),ea=some ⟨g,0,none⟩/\g<l.heap.size/\(∀j v,o.list[j]?=some v->l.C g (k*10+j) v)/\o.cl=b[k].cl/\o.nm=b[k].name):Calls prog 160 #[.s ea b.length ec,m.val] w fun e l=>e=.r (.bool (Si b x))/\Bl w l:=by
 generalize c:Si b x=R;unfold Si at c;rw[<- I]at c;have J:∀o,Mh x o=((o.cl==m.cl)&&(o.name==m.nm)):=fun o=>by unfold Mh;rw[I,a2]
 obtain⟨f,p,K,L,N,O,Q,V,Y,Z,cn,cc,ha,hl,hc,ma,ml,mc⟩:=m;simp only[PM.val]at c J ⊢;have c2:=Bc HM;have c3:=Bc J;have a0:Bl w (w.alloc (O18 f p K L N O Q V Y Z cn cc ha hl hc ma ml mc)):=QN _;have a3:=Bf w (O18 f p K L N O Q V Y Z cn cc ha hl hc ma ml mc);clear HM J I a2;by_cases t:f=255;·subst t;rw[Sp rfl]at c;have q:=Bc c;clear c;go_in;go_wp2;go_ret;exact⟨by rw[<- Ba q];rfl,a0⟩
 rw[Pf t]at c;have c6:(f==255)=false:=by simpa using t
 have h:Hid ((b.drop 0).any (Mh x)=R):=c;clear c t;go_in;go_wp2
 go_loopw [12] (fun v wr=>∃k:Nat,k<=b.length/\v=.i (k:Int)/\Hid ((b.drop k).any (Mh x)=R)/\Bl w wr/\wr.heap[w.heap.size]?=some (O18 f p K L N O Q V Y Z cn cc ha hl hc ma ml mc))
  (fun v _=>b.length-(intOf v).toNat)
 case atStart=>exact⟨0,Bd,rfl,h,a0,a3⟩
 case round=>
  clear h a0 a3;obtain⟨k,hk,rfl,h,z,CM⟩:=hrel;have c4:=z.size;have lM:=Pk CM;obtain⟨m0,m1⟩:=cl2 CM;simp at m0 m1;by_cases a4:k<b.length
  ·obtain⟨o,g,hg,c7,A,e1,e2⟩:=Ba c2 _ z k a4;replace A:=Ub A;have hd:b.drop k=b[k]::b.drop (k+1):=Wr a4;have c:=Ba h;rw[hd,Byb,Ba c3,<- e1,<- e2]at c;obtain⟨B,D,a5,a6,a7,a8,a9,b0,b1,b2,b3,b4,b5,b6,b7,b8,b9,c0⟩:=o;simp only at A c;obtain⟨y0,y1,y2,y3,y4,y5,y6,y7,y8,y9⟩:=A;have kb:(k:Int)<(b.length:Int):=Bd;have a1:=z.alloc c4 (O18 B D a5 a6 a7 a8 a9 b0 b1 b2 b3 b4 b5 b6 b7 b8 b9 c0);have c1:=Bk CM (O18 B D a5 a6 a7 a8 a9 b0 b1 b2 b3 b4 b5 b6 b7 b8 b9 c0);clear hd e1 e2 h;subst hg;by_cases F:B=f
   ·subst F;by_cases G:D=p
    ·subst G;have q:Hid (R=true):=by unfold Hid;rw[<- c];simp
     clear c;go_wp2;go_ret;exact⟨by rw[Ba q];rfl,a1⟩
    have HG:Hid ((b.drop (k+1)).any (Mh x)=R):=by unfold Hid;rw[<- c];simp[G]
    have c8:(D==p)=false:=by simpa using G
    clear c G;go_wp2;go_roundw
    case rel=>exact⟨k+1,Bd,Lt,HG,a1,c1⟩
    case measure=>simp[intOf];omega
   have HG:Hid ((b.drop (k+1)).any (Mh x)=R):=by unfold Hid;rw[<- c];simp[F]
   have c9:(B==f)=false:=by simpa using F
   clear c F;go_wp2;go_roundw
   case rel=>exact⟨k+1,Bd,Lt,HG,a1,c1⟩
   case measure=>simp[intOf];omega
  have q:Hid (R=false):=by unfold Hid;rw[<- Ba h,Bvi Bd];rfl
  have kb:¬(k:Int)<(b.length:Int):=Bd;clear h;go_wp2;go_ret;exact⟨by rw[Ba q];rfl,z⟩
def Bf3(o m:PM)(y x:Rd.Mth)(Q:Nat)(w:TW)(J:o.is y w Q)(K:m.is x w Q)(d4:y.params.length<=1000)(d5:x.params.length<=1000):Calls prog 213 #[o.val,m.val] w fun e f=>e=.r (.bool (M7 y x))/\Bl w f:=by
 generalize b:M7 y x=R;unfold M7 at b;have hy:y.result=(o.r1,o.r2):=by rw[J.r1,J.r2]
 have hx:x.result=(m.r1,m.r2):=by rw[K.r1,K.r2]
 rw[hy,hx]at b;have a0:∀f,Bl w f->Dp f Q (.s o.pa o.pl o.pc) y.params:=fun f h=>(J.below h).ps;have a4:∀f,Bl w f->Dp f Q (.s m.pa m.pl m.pc) x.params:=fun f h=>(K.below h).ps;have eo:=J.pl;have em:=K.pl;clear hy hx J K;generalize y.params=A at *;generalize x.params=B at *;obtain⟨a5,a6,a7,d6,a8,j,l,a9,b0,b4,b5,b6,b7,b8,b9,c0,c1,c2⟩:=o;obtain⟨V,Y,Z,pl,pc,C,D,lo,st,ca,cn,cc,ha,hl,hc,ma,ml,mc⟩:=m;simp only at eo em;subst eo em;simp only[PM.val]at b a0 a4 ⊢;have HO:=Bc a0;have HM:=Bc a4;have L:=Bx w (O18 a5 a6 a7 A.length a8 j l a9 b0 b4 b5 b6 b7 b8 b9 c0 c1 c2) (O18 V Y Z B.length pc C D lo st ca cn cc ha hl hc ma ml mc);have c8:=Cb w (O18 a5 a6 a7 A.length a8 j l a9 b0 b4 b5 b6 b7 b8 b9 c0 c1 c2) (O18 V Y Z B.length pc C D lo st ca cn cc ha hl hc ma ml mc);have c5:=Bv w (O18 a5 a6 a7 A.length a8 j l a9 b0 b4 b5 b6 b7 b8 b9 c0 c1 c2) (O18 V Y Z B.length pc C D lo st ca cn cc ha hl hc ma ml mc);clear a0 a4;by_cases F:j=C/\l=D
 ·rw[Pf (by simp[F])]at b;obtain⟨rfl,rfl⟩:=F;by_cases h2:A.length=B.length
  ·have t:Hid (decide (A.drop 0=B.drop 0)=R):=b;have c9:((A.length:Int) != (B.length:Int))=false:=by simp[h2]
   have d7:A.length<=B.length:=Bd;have d8:B.length<=A.length:=Bd;clear b h2;go_in;go_wp2
   go_loopw [24] (fun v wr=>∃k:Nat,k<=A.length/\v=.i (k:Int)/\Hid (decide (A.drop k=B.drop k)=R)/\Bl w wr/\wr.heap[w.heap.size+1]?=some (O18 V Y Z B.length pc j l lo st ca cn cc ha hl hc ma ml mc))
    (fun v _=>A.length-(intOf v).toNat)
   case atStart=>exact⟨0,Bd,rfl,t,L,c5⟩
   case round=>
    clear t L c5 c8;obtain⟨k,hk,rfl,t,N,CM⟩:=hrel;have d0:=N.size;have lM:=Pk CM;have m2:=Bb CM 2;simp at m2;by_cases c6:k<A.length
    ·have c7:k<B.length:=Bd;obtain⟨ga,d1,d9,_,c3⟩:=Cf (Ba HO _ N) Bd;obtain⟨gb,d2,f0,_,c4⟩:=Cf (Ba HM _ N) Bd;obtain⟨a1,a2,a3⟩:=Gc A k c6;obtain⟨b1,b2,b3⟩:=Gc B k c7;have x0:=(c3 (k*2) Bd).trans a1;have x1:=(c3 (k*2+1) Bd).trans a2;have y0:=(c4 (k*2) Bd).trans b1;have y1:=(c4 (k*2+1) Bd).trans b2;have b:=Ba t;rw[We c6 c7]at b;have kb:(k:Int)<(A.length:Int):=Bd;have f1:(k:Int)<(B.length:Int):=Bd;have f2:decide ((B.length:Int)<=(k:Int))=false:=Fm;generalize A[k]=p at *;generalize B[k]=q at *;obtain⟨G,I⟩:=p;obtain⟨q1,q2⟩:=q;simp only at x0 x1 y0 y1;have c:=N.alloc d0 (O7 G I);have d3:=Bk CM (O7 G I);have f3:¬((B.length:Int)<=(k:Int)):=Bd;clear c3 c4 a1 a2 a3 b1 b2 b3 t;subst d1 d2;by_cases O:G=q1/\I=q2
     ·obtain⟨rfl,rfl⟩:=O;have HG:Hid (decide (A.drop (k+1)=B.drop (k+1))=R):=by unfold Hid;rw[<- b];simp
      clear b;go_wp2_with (go_quiet (fail))
      go_wp2;go_roundw
      case rel=>exact⟨k+1,Bd,Lt,HG,⟨c.os,c.tape,c.output,c.size,c.block⟩,d3⟩
      case measure=>simp[intOf];omega
     have g:Hid (R=false):=by
      unfold Hid;have:decide ((G,I)=(q1,q2))=false:=by simpa using O
      rw[<- b,this];rfl
     clear b;by_cases z:q1=G
     ·subst z;have h5:(q2==I)=false:=by
       have:¬q2=I:=fun h=>O ⟨rfl,h.symm⟩;simpa using this
      clear O;go_wp2_with (go_quiet (fail))
      go_wp2;go_ret;exact⟨by rw[Ba g];rfl,⟨c.os,c.tape,c.output,c.size,c.block⟩⟩
     have h5:(q1==G)=false:=by simpa using z
     clear O z;go_wp2_with (go_quiet (fail))
     go_wp2;go_ret;exact⟨by rw[Ba g];rfl,⟨c.os,c.tape,c.output,c.size,c.block⟩⟩
    have g:Hid (R=true):=by unfold Hid;rw[<- Ba t,Bvi Bd,Bvi Bd];rfl
    have kb:¬(k:Int)<(A.length:Int):=Bd;clear t;go_wp2;go_ret;exact⟨by rw[Ba g];rfl,N⟩
  have g:Hid (R=false):=by
   unfold Hid;rw[<- b];simp only[Bxb];intro h;exact h2 (by rw[h])
  have c9:((A.length:Int) != (B.length:Int))=true:=Fm;clear b h2;go_in;go_wp2;go_ret;exact⟨by rw[Ba g];rfl,L⟩
 rw[Sp (by simpa using F)]at b;have g:=Bc b;clear b;by_cases z:j=C
 ·subst z;have h5:(l==D)=false:=by
   have:¬l=D:=fun h=>F ⟨rfl,h⟩;simpa using this
  clear F;go_in;go_wp2;go_ret;exact⟨by rw[<- Ba g];rfl,L⟩
 have h5:(j==C)=false:=by simpa using z
 clear F z;go_in;go_wp2;go_ret;exact⟨by rw[<- Ba g];rfl,L⟩
variable {ya:Option Addr}{yn yc:Nat}
def Bdj(c5 a1:TA)(c6 c7 a2:Nat)(b:List (Rd.Mth×Eh))(T:TI)(N a3 O:Nat)(m:PM)(x:Rd.Mth)(w:TW)(hm:m.is x w O)(hT:T.length<=1000)(f1:Dl w N T) (g9:b.length<=6)(f2:Eb w O (.s a1 b.length a2) b)(f8:x.params.length<=1000)(f3:∀p∈b,p.1.params.length<=1000):Calls prog 161 #[.agg #[.s c5 c6 c7,.s a1 b.length a2],.agg #[.s (.p N) T.length a3,.s ya yn yc],m.val] w fun e c=>e=.r (.bool (Mi T (b.map Prod.fst) x))/\Bl w c:=by
 generalize f:Mi T (b.map Prod.fst) x=R;unfold Mi at f;rw[<- hm.cl]at f;have c8:∀o,In T x o=((o.name==m.nm)&&(Tr.below T m.cl o.cl && !M7 o x)):=fun o=>by unfold In;rw[hm.cl,hm.nm]
 have c9:=fun h c (hb:Bl w c)=>Aq (ya:=ya) (yn:=yn) (yc:=yc) T N a3 m.cl h c hT (f1.below hb);have d0:=fun (o:PM) (y:Rd.Mth) c (hb:Bl w c) (ho:o.is y c O) hy=>Bf3 o m y x O c ho (hm.below hb) hy f8;have f4:∀c,Bl w c->Eb c O (.s a1 b.length a2) b:=fun c h=>f2.kp (Kp.of_below (e:=none) h) Ck Ck Ck Ck Ck;clear hm f2 f1;obtain⟨Q,nm,pa,pl,pc,r1,r2,lo,st,ca,cn,cc,ha,hl,hc,ma,ml,mc⟩:=m;simp only[PM.val]at f c8 c9 d0 ⊢;have f9:=Bc c8;have g0:=Bc c9;have g1:=Bc d0;have g2:=Bc f4;have g3:=Bc f3;have d1:=Is w (O1 c5 c6 c7 a1 b.length a2) (O2 (.p N) T.length a3 ya yn yc) (O18 Q nm pa pl pc r1 r2 lo st ca cn cc ha hl hc ma ml mc);have C0:=W8 w (O1 c5 c6 c7 a1 b.length a2) (O2 (.p N) T.length a3 ya yn yc) (O18 Q nm pa pl pc r1 r2 lo st ca cn cc ha hl hc ma ml mc);clear c8 c9 d0 f4 f3;by_cases I:Q=255;·subst I;rw[Sp rfl]at f;have HE:=Bc f;clear f;go_in;go_wp2;go_ret;exact⟨by rw[<- Ba HE];rfl,d1⟩
 rw[Pf I]at f;have h0:(Q==255)=false:=by simpa using I
 have J:Hid (((b.map Prod.fst).drop 0).any (In T x)=R):=f;clear f I;go_in;go_wp2
 go_loopw [15] (fun v wr=>∃k:Nat,k<=b.length/\v=.i (k:Int)/\Hid (((b.map Prod.fst).drop k).any (In T x)=R)/\Bl w wr/\wr.heap[w.heap.size+1]?=some (O2 (.p N) T.length a3 ya yn yc)/\wr.heap[w.heap.size+1+1]?=some (O18 Q nm pa pl pc r1 r2 lo st ca cn cc ha hl hc ma ml mc))
  (fun v _=>b.length-(intOf v).toNat)
 case atStart=>exact⟨0,Bd,rfl,J,d1,C0.2.1,C0.2.2⟩
 case round=>
  clear J d1 C0;obtain⟨k,hk,rfl,J,hB,V,Y⟩:=hrel;have g4:=hB.size;have lT:=Pk V;have lM:=Pk Y;obtain⟨l,q,t,z,A,B,C,D,F,G⟩:=N7 Y;simp at l q t z A B C D F G;obtain⟨t0,t1⟩:=cl2 V;simp at t0 t1;by_cases d2:k<b.length
  ·obtain⟨o,g,hg,h4,a5,a6⟩:=(Ba g2 _ hB).mth d2;replace a5:=Ub a5;have g5:=Ba g3 _ (Bvh d2);have hd:(b.map Prod.fst).drop k=b[k].1::(b.map Prod.fst).drop (k+1):=by
    rw[Wr (by simpa using d2)];simp
   have f:=Ba J;rw[hd,Byb,Ba f9,<- a6.cl,<- a6.nm]at f;generalize b[k].1=y at *;have d3:Bl wr (wr.alloc (O18 o.cl o.nm o.pa o.pl o.pc o.r1 o.r2 o.lo o.st o.ca o.cn o.cc o.ha o.hl o.hc o.ma o.ml o.mc)):=QN _;have f5:∀c,Bl wr c->o.is y c O:=fun c h=>a6.below h;have d4:=fun c (I:Bl w c) (h2:Bl wr c)=>Ba g1 o y c I (f5 c h2) g5;have d5:=fun c (I:Bl w c)=>Ba g0 o.cl c I;clear a6 f5;obtain⟨a4,Z,a7,a8,a9,b0,b1,b2,b3,b4,b5,b6,b7,b8,b9,c0,c1,c2⟩:=o;simp only at a5 f d4 d5 d3;obtain⟨y0,y1,y2,y3,y4,y5,y6,y7,y8,y9⟩:=a5;generalize M7 y x=SC at *;generalize Tr.below T Q a4=BL at *;have f6:=Bc d4;have d6:=Bc d5;have kb:(k:Int)<(b.length:Int):=Bd;have K:=hB.alloc g4 (O18 a4 Z a7 a8 a9 b0 b1 b2 b3 b4 b5 b6 b7 b8 b9 c0 c1 c2);have c3:=Bk Y (O18 a4 Z a7 a8 a9 b0 b1 b2 b3 b4 b5 b6 b7 b8 b9 c0 c1 c2);have d7:=Bk V (O18 a4 Z a7 a8 a9 b0 b1 b2 b3 b4 b5 b6 b7 b8 b9 c0 c1 c2);have f7:=Bf wr (O18 a4 Z a7 a8 a9 b0 b1 b2 b3 b4 b5 b6 b7 b8 b9 c0 c1 c2);clear hd J d4 d5;subst hg;by_cases h3:Z=nm
   ·subst h3;cases BL with
    | false =>
     have HG:Hid (((b.map Prod.fst).drop (k+1)).any (In T x)=R):=by unfold Hid;rw[<- f];simp
     clear f;go_wp2_with fail;refine Qb (Ba d6 _ K) K ?_;intro w2 j L;have a0:=stay j c3;have d8:=stay j d7;clear l q t z A B C D F G t0 t1 y0 y1 y2 y3 y4 y5 y6 y7 y8 y9 Y V;go_wp2;go_roundw
     case rel=>exact⟨k+1,Bd,Lt,HG,L,d8,a0⟩
     case measure=>simp[intOf];omega
    | true =>
     cases SC with
     | false =>
      have HE:Hid (R=true):=by unfold Hid;rw[<- f];simp
      clear f;go_wp2_with fail;refine Qb (Ba d6 _ K) K ?_;intro w2 j L;have d9:=QB d3 j;have a0:=stay j c3;have f0:=stay j f7;clear l q t z A B C D F G t0 t1 y0 y1 y2 y3 y4 y5 y6 y7 y8 y9 Y V;obtain⟨l,q,t,z,A,B,C,D,F,G⟩:=N7 a0;simp at l q t z A B C D F G;obtain⟨o0,o1,o2,o3,o4,o5,o6,o7,o8,o9⟩:=N7 f0;simp at o0 o1 o2 o3 o4 o5 o6 o7 o8 o9;go_wp2_with fail;refine Qm (Ba f6 _ L d9) ?_;intro w3 c4;go_wp2;go_ret;exact⟨by rw[Ba HE];rfl,QB L c4⟩
     | true =>
      have HG:Hid (((b.map Prod.fst).drop (k+1)).any (In T x)=R):=by unfold Hid;rw[<- f];simp
      clear f;go_wp2_with fail;refine Qb (Ba d6 _ K) K ?_;intro w2 j L;have d9:=QB d3 j;have a0:=stay j c3;have d8:=stay j d7;have f0:=stay j f7;clear l q t z A B C D F G t0 t1 y0 y1 y2 y3 y4 y5 y6 y7 y8 y9 Y V;obtain⟨l,q,t,z,A,B,C,D,F,G⟩:=N7 a0;simp at l q t z A B C D F G;obtain⟨o0,o1,o2,o3,o4,o5,o6,o7,o8,o9⟩:=N7 f0;simp at o0 o1 o2 o3 o4 o5 o6 o7 o8 o9;go_wp2_with fail;refine Qb (Ba f6 _ L d9) L ?_;intro w3 c4 g6;have g7:=stay c4 a0;have g8:=stay c4 d8;clear l q t z A B C D F G o0 o1 o2 o3 o4 o5 o6 o7 o8 o9;go_wp2;go_roundw
      case rel=>exact⟨k+1,Bd,Lt,HG,g6,g8,g7⟩
      case measure=>simp[intOf];omega
   have HG:Hid (((b.map Prod.fst).drop (k+1)).any (In T x)=R):=by unfold Hid;rw[<- f];simp[h3]
   have h5:(Z==nm)=false:=by simpa using h3
   clear f h3;go_wp2;go_roundw
   case rel=>exact⟨k+1,Bd,Lt,HG,K,d7,c3⟩
   case measure=>simp[intOf];omega
  have HE:Hid (R=false):=by unfold Hid;rw[<- Ba J,Bvi Fm];rfl
  have kb:¬(k:Int)<(b.length:Int):=Bd;clear J;go_wp2;go_ret;exact⟨by rw[Ba HE];rfl,hB⟩
def Bn0(c:TI):∀x∈Cd.insts c,0<=x.place:=by
 intro x b;unfold Cd.insts at b;simp only[List.mem_map]at b;obtain⟨p,_,rfl⟩:=b;exact Int.natCast_nonneg p
def Bj8(c:TI)(k p:Nat):(Cd.starts c k p).length<=k:=by
 induction k generalizing p with
 | zero=>simp[Cd.starts]
 | succ j ih =>
  unfold Cd.starts
  split
  ·simp;exact ih _
  simp
def Aj(c:TI):(Cd.insts c).length<=c.length:=by
 unfold Cd.insts Cd.places;rw[Bvr];exact Bj8 _ _ _
def Bk6(Z b0:TA)(b1 b2 tg tc:Nat)(ya:TA)(yn yc:Nat)(cl nm:Int)(pa:TA)(pl pc:Nat)(r1 r2 st:Int)(J K ma:TA)(N l mc:Nat)(T:TI) (bm:Nat)(q:List (Rd.Cls×Value))(t:List (Rd.Mth×Eh))(m:Rd.Mth)(B:List (Rd.Mp×Value×Value))(w:TW) (hT:T.length<=1000)(c8:Dl w tg T)(i1:t.length<=6)(h1:q.length<=6)(d6:∀p∈q,p.1.fields.length<=1000) (d7:Ex w bm (.s Z q.length b1) q)(d8:Eb w bm (.s b0 t.length b2) t)(c0:Uy m)(d3:B.map Prod.fst=m.maps) (d9:Du w bm (.s J m.code.length N) m.code)(f0:J5 w bm (.s K m.handlers.length l) m.handlers)(f1:Ob w bm (.s ma B.length mc) B):Calls prog 162 #[PBd.val ⟨Z,q.length,b1,b0,t.length,b2,tg,tc,ya,yn,yc,cl,nm,pa,pl,pc,r1,r2,m.locals,st,J,m.code.length,N,K,m.handlers.length,l,ma,B.length,mc,none,0,T,[]⟩] w fun e f => e=.r (.agg #[.i (Ot T (Cd.fieldSum (q.map Prod.fst):Int) (t.map fun p=>p.1.cl) m).1,.i 0,.i (Ot T (Cd.fieldSum (q.map Prod.fst):Int) (t.map fun p=>p.1.cl) m).2])/\Bl w f:=by
 have i2:B.length<=64:=by have:=congrArg List.length d3;simp only[Bvr]at this;rw[this];exact c0.mp
 have f2:∀p∈B,p.1.locals.length<=1000/\p.1.stack.length<=1000/\-1000<=p.1.place/\p.1.place<=1000:=by
  intro p hp;have:=c0.fr p.1 (by rw[<- d3];exact Bwa hp);omega
 have i3:=c0.code;have i4:=c0.hs;have c9:=fun f (h:Bl w f)=>Ap m.code J N bm f Bd c0.code0 (d9.kp (Kp.of_below (e:=none) h) Ck);generalize hL:Cd.insts m.code=L;have i5:L.length<=120:=by rw[<- hL];have:=Aj m.code;omega
 have f3:∀x∈L,0<=x.place:=by rw[<- hL];exact Bn0 _
 have hI:=fun c vc bb p op n f (h:Bl w f) (hi:Hs f bb (.s c L.length vc) L) =>
  Bn1 ⟨Z,q.length,b1,b0,t.length,b2,tg,tc,ya,yn,yc,cl,nm,pa,pl,pc,r1,r2,m.locals,st,J,m.code.length,N,K,m.handlers.length,l,ma,B.length,mc,c,vc,T,L⟩ bb bm q t p op n f ⟨hT,Ls,c8.below h,hi⟩ rfl rfl Bd h1 d6 (d7.kp (Kp.of_below (e:=none) h) Ck Ck) (d8.kp (Kp.of_below (e:=none) h) Ck Ck Ck Ck Ck)
 have hH:=fun c vc bb x f (h:Bl w f) (hi:Hs f bb (.s c L.length vc) L)=>Bk7 ⟨Z,q.length,b1,b0,t.length,b2,tg,tc,ya,yn,yc,cl,nm,pa,pl,pc,r1,r2,m.locals,st,J,m.code.length,N,K,m.handlers.length,l,ma,B.length,mc,c,vc,T,L⟩ bb x f ⟨hT,Ls,c8.below h,hi⟩;have hM:=fun c vc bb f (h:Bl w f) (hi:Hs f bb (.s c L.length vc) L) =>
  Bk5 ⟨Z,q.length,b1,b0,t.length,b2,tg,tc,ya,yn,yc,cl,nm,pa,pl,pc,r1,r2,m.locals,st,J,m.code.length,N,K,m.handlers.length,l,ma,B.length,mc,c,vc,T,L⟩ bb bm B f ⟨hT,Ls,c8.below h,hi⟩ rfl Bd f2 (f1.kp (Kp.of_below (e:=none) h) Ck Ck)
 have f4:∀f,Bl w f->J5 f bm (.s K m.handlers.length l) m.handlers:=fun f h=>f0.kp (Kp.of_below (e:=none) h) Ck;unfold Cd.readL Cd.readP Cd.readB at c9;unfold Ot;rw[hL]at c9 ⊢;rw[d3]at hM;simp only[PBd.val]at hI hH hM ⊢;generalize (Cd.fieldSum (q.map Prod.fst):Int)=nf at *;generalize (t.map fun p=>p.1.cl)=ow at *;have f5:∀x,Nj T nf ow m.locals L x = !Cd.argP T nf ow m.locals L x.op x.n:=fun x=>rfl;have f6:∀x,Pz T L (m.code.length:Int) x = !Cd.hndMay T L (m.code.length:Int) x:=fun x=>rfl;generalize f7:Kt (Nj T nf ow m.locals L) L=q1;generalize f8:Cd.firstIx (Pz T L (m.code.length:Int)) 0 m.handlers=G;generalize h2:Cd.faultOf (Cd.inMaps T L 0 0 m.maps)=q3 at *;have f9:Hid (Kt (Nj T nf ow m.locals L) (L.drop 0)=q1):=f7;have g0:Hid (Cd.firstIx (Pz T L (m.code.length:Int)) 0 (m.handlers.drop 0)=G):=f8;have HI:=Bc hI;have HH:=Bc hH;have HM:=Bc hM;have d0:=Bc c9;have h3:=Bc f4;have h4:=Bc f5;have h5:=Bc f6;have h6:=Bc f3;have c5:=Bx w (O16 Z q.length b1 b0 t.length b2 (.p tg) T.length tc ya yn yc cl nm pa pl pc r1 r2 m.locals st J m.code.length N K m.handlers.length l ma B.length mc none 0 0) (O8 0 0 0);have g1:=Cb w (O16 Z q.length b1 b0 t.length b2 (.p tg) T.length tc ya yn yc cl nm pa pl pc r1 r2 m.locals st J m.code.length N K m.handlers.length l ma B.length mc none 0 0) (O8 0 0 0);have d4:=Bv w (O16 Z q.length b1 b0 t.length b2 (.p tg) T.length tc ya yn yc cl nm pa pl pc r1 r2 m.locals st J m.code.length N K m.handlers.length l ma B.length mc none 0 0) (O8 0 0 0);clear f7 f8 h2 hI hH hM c9 f4 f5 f6 f3 c8 d7 d8 d9 f0 f1 f2 c0 d6 hL;by_cases hu:0<=Cd.unread m.code;·rw[Sp hu];have b6:=Ba d0 _ c5;rw[Sp hu,Sp hu,show decide (Cd.unread m.code<0)=false by simp;omega]at b6;generalize Cd.unread m.code=u at *;have d1:=Bc b6;clear b6 d0;go_in;go_wp2_with fail;refine(Ba d1).mono ?_;rintro e w1 ⟨c,vc,rfl,_,b7⟩;have D:=QB c5 b7;have I:=stay b7 d4;obtain⟨q0,q1,G⟩:=fr3 I;obtain⟨z0,z1,z2⟩:=cl3 I;simp at z0 z1 z2;go_wp2_with fail;refine tb (.agg #[.i 5,.i 0,.i u]) (by simp[results,Bzb,go_sem,z0,z1,z2]) ?_;exact⟨rfl,((D.setCell Fr _).setCell Fr _).setCell Fr _⟩
 rw[Pf hu];have b6:=Ba d0 _ c5;rw[Pf hu,Pf hu,show decide (Cd.unread m.code<0)=true by simp;omega]at b6;have d1:=Bc b6;clear b6 d0 hu;generalize hF:(if 0<=q1 then ((5:Int),q1) else if 0<=G then (6,G) else q3)=Fa
 have HF:=Bc hF;clear hF;go_in;go_wp2_with fail;refine(Ba d1).mono ?_;rintro e w1 ⟨c,vc,rfl,O,b7⟩;have D:=QB c5 b7;have I:=stay b7 d4;have Q:=stay b7 g1;have lB:=Pk Q;have h7:=Bj Q 14;obtain⟨a0,a1,a2,a3,a4,a5,a6,a7,a8,a9,g2,g3,g4,g5,g6⟩:=Wg Q;simp at a0 a1 a2 a3 a4 a5 a6 a7 a8 a9 g2 g3 g4 g5 g6;have b8:(w1.setCell (.a w.heap.size 14) (.s c L.length vc)).heap[w.heap.size]?=some (O16 Z q.length b1 b0 t.length b2 (.p tg) T.length tc ya yn yc cl nm pa pl pc r1 r2 m.locals st J m.code.length N K m.handlers.length l ma B.length mc c L.length vc):=by rw[Bq Q];rfl
 have C:(w1.setCell (.a w.heap.size 14) (.s c L.length vc)).heap[w.heap.size+1]?=some (O8 0 0 0):=by
  rw[Bvg _ _ _ _ Fr];exact I
 have V:=D.setCell (p:=.a w.heap.size 14) Fr (.s c L.length vc);have g7:Hs (w1.setCell (.a w.heap.size 14) (.s c L.length vc)) (w.heap.size+1+1) (.s c L.length vc) L :=
  Hs.kp (by simpa using O) (Kp.set (b:=w.heap.size+1+1) (i:=14) Q (.s c L.length vc)) Ck
 clear O d1 c5 g1 d4;have b4:=Bb b8 14;simp at b4;go_wp2
 go_loopw [27] (fun v wr=>∃k:Nat,k<=L.length/\v=.i (k:Int)/\Hid (Kt (Nj T nf ow m.locals L) (L.drop k)=q1)/\Bl w wr /\
   wr.heap[w.heap.size]?=some (O16 Z q.length b1 b0 t.length b2 (.p tg) T.length tc ya yn yc cl nm pa pl pc r1 r2 m.locals st J m.code.length N K m.handlers.length l ma B.length mc c L.length vc)/\wr.heap[w.heap.size+1]?=some (O8 0 0 0)/\Hs wr (w.heap.size+1+1) (.s c L.length vc) L)
  (fun v _=>L.length-(intOf v).toNat)
 case atStart=>exact⟨0,Bd,rfl,f9,V,b8,C,g7⟩
 case round=>
  clear f9 V b8 C g7 Q I D b7 b4 a0 a1 a2 a3 a4 a5 a6 a7 a8 a9 g2 g3 g4 g5 g6 h7;obtain⟨k,hk,rfl,HQ,Y,CB,CR,O⟩:=hrel;have c6:=Y.size;have lB:=Pk CB;have lR:=Pk CR;obtain⟨m0,m1,m2,m3,m4,m5,m6,m7,m8,m9,c1,c2,c3,c4,b4⟩:=Wg CB;simp at m0 m1 m2 m3 m4 m5 m6 m7 m8 m9 c1 c2 c3 c4 b4;by_cases F:k<L.length
  ·obtain⟨g,hg,h8,_,b3⟩:=Cf O Bd;obtain⟨e1,e2,e3,e4⟩:=W4 L k F;have y0:=(b3 (k*3) Bd).trans e1;have y1:=(b3 (k*3+1) Bd).trans e2;have y2:=(b3 (k*3+2) Bd).trans e3;have hd:L.drop k=L[k]::L.drop (k+1):=Wr F;have hq:=Ba HQ;rw[hd,Kt,Ba h4]at hq;have g8:=Ba h6 _ (Bvh F);generalize L[k]=x at *;obtain⟨xp,xo,xn⟩:=x;simp only at y0 y1 y2 hq g8;have D:=Y.alloc c6 (O15 xp xo xn);have c7:Bl wr (wr.alloc (O15 xp xo xn)):=QN _;have b9:=O.kp (Kp.of_below (e:=none) c7) Ck;have l:=Ba HI c vc _ xp xo xn _ D b9;generalize Cd.argP T nf ow m.locals L xo xn=A at *;have HC:=Bc l;have b5:=Bc hq;have g9:=Bf wr (O15 xp xo xn);have Q:=Bk CB (O15 xp xo xn);have I:=Bk CR (O15 xp xo xn);have kb:(k:Int)<(L.length:Int):=Bd;clear l hq hd b3 e1 e2 e3 e4 HQ c7;subst hg;cases A with
   | false =>
    have HE:Hid (Fa=(5,xp)):=by
     unfold Hid;have e:q1=xp:=by rw[<- Ba b5];simp
     rw[<- Ba HF,e,Sp g8]
    clear b5;go_wp2_with fail;refine Qb (Ba HC) D ?_;intro w2 z V;have C:=stay z I;have h9:=stay z g9;have x0:=Bb h9 0;obtain⟨q0,q1,G⟩:=fr3 C;obtain⟨z0,z1,z2⟩:=cl3 C;simp at z0 z1 z2 x0;go_wp2_with fail;refine tb (.agg #[.i 5,.i 0,.i xp]) (by simp[results,Bzb,go_sem,z0,z1,z2]) ?_;rw[Ba HE];exact⟨rfl,((V.setCell Fr _).setCell Fr _).setCell Fr _⟩
   | true =>
    have HG:Hid (Kt (Nj T nf ow m.locals L) (L.drop (k+1))=q1):=by unfold Hid;rw[<- Ba b5];simp
    clear b5;go_wp2_with fail;refine Qb (Ba HC) D ?_;intro w2 z V;have b8:=stay z Q;have C:=stay z I;have d5:=b9.kp (Kp.of_below (e:=none) z) Ck;clear z D Q I g9 Y CB CR m0 m1 m2 m3 m4 m5 m6 m7 m8 m9 c1 c2 c3 c4 b4 y0 y1 y2 b9 O;go_wp2;go_roundw
    case rel=>exact⟨k+1,Bd,Lt,HG,V,b8,C,d5⟩
    case measure=>simp[intOf];omega
  have h0:Hid ((if 0<=G then ((6:Int),G) else q3)=Fa):=by
   unfold Hid;have e:q1 = -1:=by rw[<- Ba HQ,Bvi Bd];rfl
   rw[<- Ba HF,e];exact(Pf Bd).symm
  have kb:¬(k:Int)<(L.length:Int):=Bd;clear HQ HF;go_wp2
  go_loopw [43] (fun v d2=>∃k:Nat,k<=m.handlers.length/\v=.i (k:Int)/\Hid (Cd.firstIx (Pz T L (m.code.length:Int)) k (m.handlers.drop k)=G)/\Bl w d2 /\
    d2.heap[w.heap.size]?=some (O16 Z q.length b1 b0 t.length b2 (.p tg) T.length tc ya yn yc cl nm pa pl pc r1 r2 m.locals st J m.code.length N K m.handlers.length l ma B.length mc c L.length vc)/\d2.heap[w.heap.size+1]?=some (O8 0 0 0)/\Hs d2 (w.heap.size+1+1) (.s c L.length vc) L)
   (fun v _=>m.handlers.length-(intOf v).toNat)
  case atStart=>exact⟨0,Bd,rfl,g0,Y,CB,CR,O⟩
  case round=>
   clear g0 Y CB CR O m0 m1 m2 m3 m4 m5 m6 m7 m8 m9 c1 c2 c3 c4 b4 kb hk F lB lR c6;obtain⟨j,hk,rfl,HQ,Y,CB,CR,O⟩:=hrel;have c6:=Y.size;have lB:=Pk CB;have lR:=Pk CR;obtain⟨m0,m1,m2,m3,m4,m5,m6,m7,m8,m9,c1,c2,c3,c4,b4⟩:=Wg CB;simp at m0 m1 m2 m3 m4 m5 m6 m7 m8 m9 c1 c2 c3 c4 b4;by_cases F:j<m.handlers.length
   ·obtain⟨g,hg,h8,_,b3⟩:=Cf (Ba h3 _ Y) Bd;have y0:=(b3 _ (De m.handlers j F 0 Bd).2).trans (De m.handlers j F 0 Bd).1;have y1:=(b3 _ (De m.handlers j F 1 Bd).2).trans (De m.handlers j F 1 Bd).1;have y2:=(b3 _ (De m.handlers j F 2 Bd).2).trans (De m.handlers j F 2 Bd).1;have y3:=(b3 _ (De m.handlers j F 3 Bd).2).trans (De m.handlers j F 3 Bd).1;have hd:m.handlers.drop j=m.handlers[j]::m.handlers.drop (j+1):=Wr F;have hq:=Ba HQ;rw[hd,Cd.firstIx,Ba h5]at hq;generalize m.handlers[j]=x at *;obtain⟨x1,x2,x3,x4⟩:=x;simp at y0 y1 y2 y3;have D:=Y.alloc c6 (O19 x1 x2 x3 x4);have c7:Bl wr (wr.alloc (O19 x1 x2 x3 x4)):=QN _;have b9:=O.kp (Kp.of_below (e:=none) c7) Ck;have l:=Ba HH c vc _ ⟨x1,x2,x3,x4⟩ _ D b9;simp only at l;generalize Cd.hndMay T L (m.code.length:Int) ⟨x1,x2,x3,x4⟩=A at *;have HC:=Bc l;have b5:=Bc hq;have Q:=Bk CB (O19 x1 x2 x3 x4);have I:=Bk CR (O19 x1 x2 x3 x4);have kb:(j:Int)<(m.handlers.length:Int):=Bd;clear l hq hd b3 HQ c7;subst hg;cases A with
    | false =>
     have HE:Hid (Fa=(6,(j:Int))):=by
      unfold Hid;have e:G=(j:Int):=by rw[<- Ba b5];simp
      rw[<- Ba h0,e,Sp Bd]
     clear b5;go_wp2_with fail;refine Qb (Ba HC) D ?_;intro w2 z V;have C:=stay z I;obtain⟨q0,q1,G⟩:=fr3 C;obtain⟨z0,z1,z2⟩:=cl3 C;simp at z0 z1 z2;go_wp2_with fail;refine tb (.agg #[.i 6,.i 0,.i (j:Int)]) (by simp[results,Bzb,go_sem,z0,z1,z2]) ?_;rw[Ba HE];exact⟨rfl,((V.setCell Fr _).setCell Fr _).setCell Fr _⟩
    | true =>
     have HG:Hid (Cd.firstIx (Pz T L (m.code.length:Int)) (j+1) (m.handlers.drop (j+1))=G):=by unfold Hid;rw[<- Ba b5];simp
     clear b5;go_wp2_with fail;refine Qb (Ba HC) D ?_;intro w2 z V;have b8:=stay z Q;have C:=stay z I;have d5:=b9.kp (Kp.of_below (e:=none) z) Ck;clear z D Q I Y CB CR m0 m1 m2 m3 m4 m5 m6 m7 m8 m9 c1 c2 c3 c4 b4 y0 y1 y2 y3 b9 O;go_wp2;go_roundw
     case rel=>exact⟨j+1,Bd,Lt,HG,V,b8,C,d5⟩
     case measure=>simp[intOf];omega
   have HE:Hid (q3=Fa):=by
    unfold Hid;have e:G = -1:=by rw[<- Ba HQ,Bvi Bd];rfl
    rw[<- Ba h0,e,Pf Bd]
   have kb:¬(j:Int)<(m.handlers.length:Int):=Bd;have hm:=Ba HM c vc _ _ Y O;have i0:=Bc hm;clear hm HQ;go_wp2_with fail;refine Qm (Ba i0) ?_;intro w2 z;have V:=Y.trans (z.mono c6);have C:=stay z CR;obtain⟨q0,q1,G⟩:=fr3 C;obtain⟨z0,z1,z2⟩:=cl3 C;simp at z0 z1 z2;go_wp2_with fail;refine tb (.agg #[.i q3.1,.i 0,.i q3.2]) (by simp[results,Bzb,go_sem,z0,z1,z2]) ?_;rw[Ba HE];exact⟨rfl,((V.setCell Fr _).setCell Fr _).setCell Fr _⟩
def Cm (n:Int):UInt8:=UInt8.ofNat (n % 256).toNat
def N8 (t:Int × Int):List UInt8:=[Cm t.1,Cm t.2]
def Fh (l:TP):List UInt8:=l.flatMap N8
def Nf (c:Rd.Cls):List UInt8:=Cm c.above::Cm (c.fields.length:Int)::Fh c.fields
def Sv (h:Rd.Hnd):List UInt8:=[Cm h.frm,Cm h.til,Cm h.target,Cm h.cl]
def Pw (l:List Rd.Hnd):List UInt8:=Cm (l.length:Int)::l.flatMap Sv
def Lk (m:Rd.Mp):List UInt8:=Cm m.place::(Fh m.locals++Cm (m.stack.length:Int)::Fh m.stack)
def Uw (l:List Rd.Mp):List UInt8:=Cm (l.length:Int)::l.flatMap Lk
def Bdk (m:Rd.Mth):List UInt8 :=
 [Cm m.cl,Cm m.name,Cm (m.params.length:Int)]++Fh m.params++N8 m.result++[Cm m.locals,Cm m.stack,Cm (m.code.length:Int)]++m.code.map Cm++Pw m.handlers
def Ks (m:Rd.Mth):List UInt8:=Bdk m++Uw m.maps
def Bbq (cs:List Rd.Cls)(n:Int):List UInt8:=[83,77,Cm (cs.length:Int)]++cs.flatMap Nf++[Cm n]
def Ux (f:Rd.Fil):List UInt8:=Bbq f.classes (f.methods.length:Int)++f.methods.flatMap Ks
def Tryz.infoU8:(prog.info? 5).map (fun i=>(i.zero,i.size,i.bytes))=some (some (.int .u8 0),1,1):=Le
def Ui (l:TB):List Value:=l.map fun b=>.int .u8 (b.toNat:Int)
def Brn(x:Int):((Cm x).toNat:Int)=x%256:=by
 unfold Cm;have b:=Int.emod_nonneg x (show (256:Int)≠0 by omega);have c:=Int.emod_lt_of_pos x (show (0:Int)<256 by omega);rw[UInt8.toNat_ofNat'];rw[Nat.mod_eq_of_lt Bd];omega
structure WG(n:Nat)(w w':World):Prop where
 bel:Below n w w'
 kp:∀(k:Nat) (cs:Array Value) (t:TypeId),w.heap[k]?=some (.cells cs t (0,0))->t≠5->t≠137->w'.heap[k]?=some (.cells cs t (0,0))
def WG.refl(n:Nat)(w:TW):WG n w w:=⟨Vm _ _,fun _ _ _ h _ _=>h⟩
def WG.trans{n:Nat}{a b c:TW}(h:WG n a b)(k:WG n b c):WG n a c:=⟨h.bel.trans k.bel,fun i e t j f g=>k.kp i e t (h.kp i e t j f g) f g⟩
def WG.alloc{n:Nat}{a b:TW}(h:WG n a b)(c:n<=b.heap.size)(o:Obj):WG n a (b.alloc o) :=
 ⟨h.bel.alloc c o,fun i e t f g j=>by
  have:=h.kp i e t f g j;rw[Bvu b o i (Pk this)];exact this⟩
def J7 (w:TW)(n B:Nat)(l:TB):Prop:=∃v,w.heap[B]?=some (.cells #[v] 137 (0,0))/\n<=B/\w.ownsRow n 5 1 v l.length (Ui l)
def J7.alloc{n s:Nat}{D:TB}(h:J7 w n s D)(o:Obj):J7 (w.alloc o) n s D:=by
 obtain⟨v,b,c,e⟩:=h;exact⟨v,by rw[Bvu w o s (Pk b)];exact b,c,e.alloc o⟩
def J7.lt{n s:Nat}{D:TB}(h:J7 w n s D):n<=s/\s<w.heap.size:=by
 obtain⟨v,b,c,_⟩:=h;exact⟨c,Pk b⟩
def WG.grown{n:Nat}{a b c:TW}{i:TX}{s:Nat}{e:TV}(h:WG n a b)(g:b.grownBy c i.ownBlock)(j:b.ownsRow n 5 1 i s e)(q:n<=b.heap.size):WG n a c :=
 ⟨h.bel.grown g q (fun k f=>(j.lt k f).1),fun k l t z p A=>Kp.of_grown (b:=0) g j k l t (Bv5 _) (h.kp k l t z p A) (by simpa using p)⟩
def WG.set{n s i:Nat}{a b:TW}{G:Array Value}(h:WG n a b)(f:b.heap[s]?=some (.cells G 137 (0,0)))(g:n<=s)(u:TX):WG n a (b.setCell (.a s i) u) :=
 ⟨h.bel.setCell (by simpa using g) u,fun k c t j l e=>Kp.set (b:=0) f u k c t (Bv5 _) (h.kp k c t j l e) (by simpa using e)⟩
def Lx{n s j K:Nat}{g:TypeId}{i:TX}{e:TV}{b:TW}(h:w.ownsRow s g j i K e)(q:WG n w b)(z:g≠5)(A:g≠137):b.ownsRow s g j i K e:=by
 obtain⟨l,B|⟨f,C,p,a,c,d,r⟩⟩:=h
 ·exact⟨l,.inl B⟩
 exact⟨l,.inr ⟨f,C,p,a,c,q.kp f p g d z A,r⟩⟩
def Boz(l r:TB):Ui (l++r)=Ui l++Ui r:=by simp[Ui]
def Kf(l:TP):(Fh l).length=2*l.length:=by
 induction l with
 | nil=>rfl
 | cons x r ih=>simp[Fh,N8]at ih ⊢;omega
def Gg(n B:Nat)(l:TB)(x:Int)(w:TW)(hl:l.length<=100000)(G:J7 w n B l):Calls prog 71 #[.q B 0,.i x] w fun e p=>e=.r (.tuple #[])/\J7 p n B (l++[Cm x])/\WG n w p:=by
 obtain⟨v,h,t,m⟩:=G;obtain⟨I,J,K,L,N⟩:=Bv4 Tryz.infoU8;have z:=Bb h 0;have O:=Bj h 0;have Q:=Pk h;simp at z;obtain⟨V,vc,rfl⟩:=Bg m;go_in;go_wp2_with (at_builtin;refine Bvw _ rfl _ _ 120 rfl n 5 I _ 1 1 underlying120 J K L N rfl Ck _ _ _ rfl (m.alloc _) ⟨w.heap.size,0,none⟩ 1 1 [.int .u8 (x%256)] rfl rfl ?c1 ?c2 ?c3 ?c4 ?c5 ?_)
 case c1=>exact Dv _ _ _ _ rfl
 case c2=>intro u A;simp at A;subst A;rfl
 case c3=>unfold maxLen;omega
 case c4=>omega
 case c5=>simp;omega
 intro v' j C D _;obtain⟨c,f,rfl⟩:=Bg C;have Y:=Bk h (O20 (x%256));have F:=m.alloc (O20 (x%256));have Z:=((WG.refl n w).alloc Bd (O20 (x%256))).grown D F Fm;have g:j.heap[B]?=some (O21 V l.length vc):=Kp.of_grown (b:=0) D F B _ _ (Bv5 _) Y Ck;have c2:=Bb g 0;have f2:=Bj g 0;have a3:=Pk g;simp at c2;clear z O Q;have a0:(j.setCell (.a B 0) (.s c (l.length+1) f)).ownsRow n 5 1 (.s c (l.length+1) f) (l++[Cm x]).length (Ui (l++[Cm x])):=by
  have:j.ownsRow n 5 1 (.s c (l.length+1) f) (l++[Cm x]).length (Ui (l++[Cm x])):=by
   rw[Boz,Up];simpa[Ui,Brn] using C
  exact Cx this (Kp.set (b:=n) g (.s c (l.length+1) f)) Ck
 have a1:(j.setCell (.a B 0) (.s c (l.length+1) f)).heap[B]?=some (O21 c (l.length+1) f):=by rw[Bq g];rfl
 have a2:=Z.set (i:=0) g t (.s c (l.length+1) f);go_wp2;go_end0;exact⟨rfl,⟨_,a1,t,a0⟩,a2⟩
def Bc3(n B:Nat)(l:TB)(k x:Int)(w:TW)(z:l.length+2<=100000)(b:J7 w n B l):Calls prog 114 #[.q B 0,.agg #[.i k,.i x]] w fun e c=>e=.r (.tuple #[])/\J7 c n B (l++N8 (k,x))/\WG n w c:=by
 have h:=Bf w (O7 k x);have A:=b.lt;have j:=(WG.refl n w).alloc Bd (O7 k x);have m:=b.alloc (O7 k x);go_in
 (go_wp2_with fail);refine Qm (Gg n B l k _ Bd m) ?_;rintro C ⟨p,f⟩
 have g:=f.kp _ _ _ h Ck Ck;have s:=Bb g 1;have D:=Pk g;simp at s
 (go_wp2_with fail);refine Qm (Gg n B (l++[Cm k]) x _ Fm p) ?_;rintro F ⟨t,v⟩
 go_wp2;go_end0;exact⟨rfl,by simpa[N8] using t,(j.trans f).trans v⟩
def Bbt(n B b:Nat)(l:TB)(f:TP)(a:TA)(m c:Nat)(w:TW)(hl:l.length+2*f.length<=100000)(hW:J7 w n B l)(G:Dp w b (.s a m c) f):Calls prog 72 #[.q B 0,.s a m c] w fun e I=>e=.r (.tuple #[])/\J7 I n B (l++Fh f)/\WG n w I:=by
 obtain⟨xa,xc,J⟩:=Bg G;simp only[Value.slice.injEq]at J;obtain⟨rfl,a2,rfl⟩:=J;subst a2;go_in;go_wp2
 go_loopw [8] (fun v wr=>∃k:Nat,k<=f.length/\v=.i (k:Int)/\J7 wr n B (l++Fh (f.take k))/\WG n w wr)
  (fun v _=>f.length-(intOf v).toNat)
 case atStart=>exact⟨0,Bd,rfl,by simpa[Fh] using hW,WG.refl n w⟩
 case round=>
  obtain⟨k,hk,rfl,h,j⟩:=hrel;have a6:=h.lt;by_cases K:k<f.length
  ·obtain⟨g,hg,a7,a3,A⟩:=Cf (Lx G j Ck Ck) Bd;obtain⟨N,O,e3⟩:=Gc f k K;have C:=A (k*2) Bd;have D:=A (k*2+1) Bd;rw[N]at C;rw[O]at D;have Q:f.take (k+1)=f.take k++[f[k]]:=by rw[Bvs K]
   have V:(f.take k).length=k:=Fm;generalize f[k]=t at *;obtain⟨p,z⟩:=t;simp only at C D;have F:=Kf (f.take k);rw[V]at F;have HD:Hid (l++Fh (f.take (k+1))=l++Fh (f.take k)++N8 (p,z)):=by unfold Hid;rw[Q];simp[Fh]
   have a4:(l++Fh (f.take k)).length+2<=100000:=by rw[Up,F];omega
   generalize l++Fh (f.take k)=L at *;have Y:=h.alloc (O7 p z);have Z:=j.alloc Bd (O7 p z);clear A N O e3 Q a3 V F;subst hg;go_wp2_with fail;refine Qm (Bc3 n B L p z _ a4 Y) ?_;rintro w2 ⟨a0,a1⟩;have a5:=Z.trans a1;rw[<- Ba HD]at a0;clear C D a1 Z j Y h;go_wp2;go_roundw
   case rel=>exact⟨k+1,Bd,Lt,a0,a5⟩
   case measure=>simp[intOf];omega
  have e:f.take k=f:=Bv0 Bd;rw[e]at h;go_wp2;go_end0;exact⟨rfl,h,j⟩
def Se(l:List Rd.Hnd)(k:Nat)(b:k<l.length)(j:Nat)(c:j<4):(Et l)[k*4+j]?=[Value.int .i64 l[k].frm,.i l[k].til,.i l[k].target,.i l[k].cl][j]?/\k*4+j<(Et l).length:=by
 refine⟨M5 (fun x:Rd.Hnd=>[Value.int .i64 x.frm,.i x.til,.i x.target,.i x.cl]) 4 (fun _=>rfl) l k b j c,?_⟩;unfold Et;rw[Kq (fun x:Rd.Hnd=>[Value.int .i64 x.frm,.i x.til,.i x.target,.i x.cl]) 4 (fun _=>rfl) l];omega
def As(l:List Rd.Hnd):(l.flatMap Sv).length=4*l.length:=by
 induction l with
 | nil=>rfl
 | cons x r ih=>simp[Sv]at ih ⊢;omega
def Be7(n B b:Nat)(l:TB)(f:List Rd.Hnd)(a:TA)(m c:Nat)(w:TW)(Z:l.length+(Pw f).length<=100000)(hW:J7 w n B l)(hT:J5 w b (.s a m c) f):Calls prog 115 #[.q B 0,.s a m c] w fun e w'=>e=.r (.tuple #[])/\J7 w' n B (l++Pw f)/\WG n w w':=by
 obtain⟨xa,xc,a0⟩:=Bg hT;simp only[Value.slice.injEq]at a0;obtain⟨rfl,b1,rfl⟩:=a0;subst b1;unfold Pw at Z ⊢;rw[Bvo,As]at Z;generalize a1:Cm (f.length:Int)=C;have b2:=Bc a1;clear a1;go_in
 (go_wp2_with fail);refine Qm (Gg n B l (f.length:Int) _ Bd hW) ?_;rintro w1 ⟨z,a2⟩
 rw[Ba b2]at z;go_wp2
 go_loopw [12] (fun v wr=>∃k:Nat,k<=f.length/\v=.i (k:Int)/\J7 wr n B (l++[C]++(f.take k).flatMap Sv)/\WG n w wr)
  (fun v _=>f.length-(intOf v).toNat)
 case atStart=>exact⟨0,Bd,rfl,by simpa using z,a2⟩
 case round=>
  clear z a2;obtain⟨k,hk,rfl,D,I⟩:=hrel;have b5:=D.lt;by_cases h:k<f.length
  ·obtain⟨g,hg,b6,b3,F⟩:=Cf (Lx hT I Ck Ck) Bd;have x0:=(F _ (Se f k h 0 Bd).2).trans (Se f k h 0 Bd).1;have x1:=(F _ (Se f k h 1 Bd).2).trans (Se f k h 1 Bd).1;have x2:=(F _ (Se f k h 2 Bd).2).trans (Se f k h 2 Bd).1;have x3:=(F _ (Se f k h 3 Bd).2).trans (Se f k h 3 Bd).1;have hd:f.take (k+1)=f.take k++[f[k]]:=by rw[Bvs h]
   have N:=As (f.take k);have a3:(f.take k).length=k:=Fm;generalize f[k]=t at *;obtain⟨j,p,A,G⟩:=t;simp at x0 x1 x2 x3;rw[a3]at N;have HD:Hid (l++[C]++(f.take (k+1)).flatMap Sv=l++[C]++(f.take k).flatMap Sv++[Cm j]++[Cm p]++[Cm A]++[Cm G]):=by unfold Hid;rw[hd];simp[Sv]
   have b7:(l++[C]++(f.take k).flatMap Sv).length+4<=100000:=by rw[Up,Up,N];simp;omega
   generalize l++[C]++(f.take k).flatMap Sv=L at *;have z:=D.alloc (O19 j p A G);have C1:=Bf wr (O19 j p A G);have a4:=I.alloc Bd (O19 j p A G);clear F hd b3 a3 N;subst hg
   (go_wp2_with fail);refine Qm (Gg n B L j _ Bd z) ?_;rintro w2 ⟨a5,O⟩
   have J:=O.kp _ _ _ C1 Ck Ck;have y1:=Bb J 1;have l2:=Pk J;simp at y1
   (go_wp2_with fail);refine Qm (Gg n B (L++[Cm j]) p _ Fm a5) ?_;rintro w3 ⟨a6,Q⟩
   have K:=Q.kp _ _ _ J Ck Ck;have y2:=Bb K 2;have l3:=Pk K;simp at y2
   (go_wp2_with fail);refine Qm (Gg n B (L++[Cm j]++[Cm p]) A _ Fm a6) ?_;rintro w4 ⟨a7,V⟩
   have Y:=V.kp _ _ _ K Ck Ck;have y3:=Bb Y 3;have l4:=Pk Y;simp at y3
   (go_wp2_with fail);refine Qm (Gg n B (L++[Cm j]++[Cm p]++[Cm A]) G _ Fm a7) ?_;rintro w5 ⟨a8,a9⟩
   have b4:=(((a4.trans O).trans Q).trans V).trans a9;rw[<- Ba HD]at a8;clear x0 x1 x2 x3 y1 y2 y3 l2 l3 l4 C1 J K Y O Q V a9 a4 I z a5 a6 a7 D;go_wp2;go_roundw
   case rel=>exact⟨k+1,Bd,Lt,a8,b4⟩
   case measure=>simp[intOf];omega
  have e:f.take k=f:=Bv0 Bd;rw[e]at D;go_wp2;go_end0;exact⟨rfl,by simpa using D,I⟩
def Vl(l:List (Rd.Mp×Value×Value))(k:Nat)(b:k<l.length)(j:Nat)(c:j<3):(Mn l)[k*3+j]?=[Value.int .i64 l[k].1.place,l[k].2.1,l[k].2.2][j]?/\k*3+j<(Mn l).length:=by
 refine⟨M5 (fun x:Rd.Mp×Value×Value=>[Value.int .i64 x.1.place,x.2.1,x.2.2]) 3 (fun _=>rfl) l k b j c,?_⟩;unfold Mn;rw[Kq (fun x:Rd.Mp×Value×Value=>[Value.int .i64 x.1.place,x.2.1,x.2.2]) 3 (fun _=>rfl) l];omega
def Bls(l:List (Rd.Mp×Value×Value))(k:Nat)(b:k<l.length):(((l.take k).map Prod.fst).flatMap Lk).length+(Lk l[k].1).length<=((l.map Prod.fst).flatMap Lk).length:=by
 have h:(l.map Prod.fst).flatMap Lk=((l.take k).map Prod.fst).flatMap Lk++(Lk l[k].1++((l.drop (k+1)).map Prod.fst).flatMap Lk):=by
  rw[<- Bwj,<- Bwm,<- Wr b,<- Bwl,<- Bvx,Bxm]
 rw[h,Up,Up];omega
def Bcz(x:Rd.Mth):(Ks x).length=8+2*x.params.length+x.code.length+(Pw x.handlers).length+(Uw x.maps).length:=by
 simp[Ks,Bdk,N8,Kf];omega
def Zp{α:Type}(f:α->TB)(l:List α)(k:Nat)(b:k<l.length):((l.take k).flatMap f).length+(f l[k]).length<=(l.flatMap f).length:=by
 have h:l.flatMap f=(l.take k).flatMap f++(f l[k]++(l.drop (k+1)).flatMap f):=by
  rw[<- Bwj,<- Wr b,<- Bwl,Bxm]
 rw[h,Up,Up];omega
def Ex.wg{n s:Nat}{i:TX}{J:List (Rd.Cls×Value)}{b:TW}(h:Ex w s i J)(c:WG n w b):Ex b s i J :=
 ⟨Lx h.1 c Ck Ck,fun p e=>Lx (h.2 p e) c Ck Ck⟩
variable {ya:Option Addr}{yn yc:Nat}
theorem tq{Q:Exit→Act→World→Prop}{S:World→Prop}{fuel:Nat}{a:Act}{w:World}(i:Nat)(v:Value){d:Option Tmp}{op:Op}{ty:TypeId}{ps:String}{af:Array Edge}{Z:Prop}(hS:S w)(h:Z)(hi:ops[i]?=some ⟨d,op,ty,ps,af,gd⟩:=by rfl)(hs:Region.noSelect ops=true:=by kernel_rfl)(hf:Region.free md ops listed i=true:=by kernel_rfl)(hr:(Region.ready md ops listed).contains i=true:=by kernel_rfl)(hQ:∀ c a w,Q (.panic c) (a.put d v) w→Q (.panic c) a w:=by exact fun _ _ _ h=>h)(hw:Region.wanted ⟨d,op,ty,ps,af,gd⟩ (yielded ops a.tmps)=true:=by rfl)(hy:∀ w,S w→(execOp a.eval ⟨d,op,ty,ps,af,gd⟩).run Tryz.prog w=.ok (.value v) w:=by intro w' hSw;(try dsimp only at hSw);go_simp)(hn:Z→wpAnyH Tryz.prog md ops Q S fuel (listed.setIfInBounds i true) (a.put d v) w:=by intro q;(try simp only[QX]);exact q):wpAnyH Tryz.prog md ops Q S (fuel+1) listed a w:=wpAnyH_take hi hs hf hr hQ (Or.inl ⟨hw,hy⟩) hS (hn h)
theorem tn{Q:Exit→Act→World→Prop}{S:World→Prop}{fuel:Nat}{a:Act}{w:World}(i:Nat)(v:Value){d:Option Tmp}{op:Op}{ty:TypeId}{ps:String}{af:Array Edge}{Z:Prop}(hS:S w)(h:Z)(hi:ops[i]?=some ⟨d,op,ty,ps,af,gd⟩:=by rfl)(hs:Region.noSelect ops=true:=by kernel_rfl)(hf:Region.free md ops listed i=true:=by kernel_rfl)(hr:(Region.ready md ops listed).contains i=true:=by kernel_rfl)(hQ:∀ c a w,Q (.panic c) (a.put d v) w→Q (.panic c) a w:=by exact fun _ _ _ h=>h)(hw:Region.wanted ⟨d,op,ty,ps,af,gd⟩ (yielded ops a.tmps)=false:=by rfl)(hv:v=undef:=by rfl)(hn:Z→wpAnyH Tryz.prog md ops Q S fuel (listed.setIfInBounds i true) (a.put d v) w:=by intro q;(try simp only[QX]);exact q):wpAnyH Tryz.prog md ops Q S (fuel+1) listed a w:=wpAnyH_take hi hs hf hr hQ (Or.inr ⟨hw,hv⟩) hS (hn h)
theorem tl{Q:Exit→Act→World→Prop}{S:World→Prop}{fuel:Nat}{a:Act}{w:World}(i:Nat)(v:Value){d:Option Tmp}{op:Op}{ty:TypeId}{ps:String}{af:Array Edge}(hy:∀ w,S w→(execOp a.eval ⟨d,op,ty,ps,af,gd⟩).run Tryz.prog w=.ok (.value v) w)(hS:S w)(h:wpAnyH Tryz.prog md ops Q S fuel (listed.setIfInBounds i true) (a.put d v) w)(hi:ops[i]?=some ⟨d,op,ty,ps,af,gd⟩:=by rfl)(hs:Region.noSelect ops=true:=by kernel_rfl)(hf:Region.free md ops listed i=true:=by kernel_rfl)(hr:(Region.ready md ops listed).contains i=true:=by kernel_rfl)(hQ:∀ c a w,Q (.panic c) (a.put d v) w→Q (.panic c) a w:=by exact fun _ _ _ h=>h)(hw:Region.wanted ⟨d,op,ty,ps,af,gd⟩ (yielded ops a.tmps)=true:=by rfl):wpAnyH Tryz.prog md ops Q S (fuel+1) listed a w:=wpAnyH_take hi hs hf hr hQ (Or.inl ⟨hw,hy⟩) hS h
theorem tr{Q:Exit→Act→World→Prop}{S:World→Prop}{fuel:Nat}{a:Act}{w:World}(i:Nat){d:Option Tmp}{op:Op}{ty:TypeId}{ps:String}{af:Array Edge}(h:∀ K:Act→World→Prop,Shut (∀ a w,S w→(S w→wpAnyH Tryz.prog md ops Q S fuel (listed.setIfInBounds i true) a w)→K a w)→if Region.wanted (⟨d,op,ty,ps,af,gd⟩:Oper) (yielded ops a.tmps)=true then Oper.wp Tryz.prog (⟨d,op,ty,ps,af,gd⟩:Oper) a w K Q else K (a.put (⟨d,op,ty,ps,af,gd⟩:Oper).dst undef) w)(ho:ops[i]?=some ⟨d,op,ty,ps,af,gd⟩:=by rfl)(hr:Region.ready md ops listed=[i]:=by kernel_rfl):wpAnyH Tryz.prog md ops Q S (fuel+1) listed a w:=wpAnyH_ready hr (by simp) (AllReadyH.cons ho h AllReadyH.nil)
def Bsb{i n:Nat}{g:TypeId}{a:TA}{K c:Nat}{e:TV}(h:w.ownsRow u g i (.s a K c) n e):n<=c:=by
 obtain⟨_,⟨l,p⟩|⟨f,q,t,j,v,z,A,_⟩⟩:=h
 ·omega
 simp only[Value.slice.injEq]at j;omega
def Ya (q:Int):Int × Int:=if 0<=q then (4,q) else (0,0)
def Ze{c:Int}(h:0<=c):Ya c=(4,c):=Sp h
def Bip(a5 a6:TA)(a7 a8 a1:Nat)(m:List (Rd.Mth×Eh))(T:TI)(tg a4 bm:Nat)(w:TW)(hT:T.length<=1000)(c9:Dl w tg T) (d0:m.length<=6)(d1:Eb w bm (.s a6 m.length a1) m)(c4:∀p∈m,p.1.params.length<=1000):Calls prog 106 #[.agg #[.s a5 a7 a8,.s a6 m.length a1],.agg #[.s (.p tg) T.length a4,.s ya yn yc]] w fun e w' => e=.r (.agg #[.i (Ya (Jq T (m.map Prod.fst) 0 (m.map Prod.fst))).1,.i (Ya (Jq T (m.map Prod.fst) 0 (m.map Prod.fst))).2,.i 0])/\Bl w w':=by
 generalize hq:Jq T (m.map Prod.fst) 0 (m.map Prod.fst)=q;have HQ:Hid (Jq T (m.map Prod.fst) 0 ((m.map Prod.fst).drop 0)=q):=hq;clear hq;have c5:=Is w (O1 a5 a7 a8 a6 m.length a1) (O2 (.p tg) T.length a4 ya yn yc) (O8 0 0 0);have C0:=W8 w (O1 a5 a7 a8 a6 m.length a1) (O2 (.p tg) T.length a4 ya yn yc) (O8 0 0 0);go_in;go_wp2
 go_loopw [10] (fun v wr=>∃k:Nat,k<=m.length/\v=.i (k:Int)/\Hid (Jq T (m.map Prod.fst) k ((m.map Prod.fst).drop k)=q)/\Bl w wr/\wr.heap[w.heap.size]?=some (O1 a5 a7 a8 a6 m.length a1) /\
   wr.heap[w.heap.size+1]?=some (O2 (.p tg) T.length a4 ya yn yc)/\wr.heap[w.heap.size+1+1]?=some (O8 0 0 0))
  (fun v _=>m.length-(intOf v).toNat)
 case atStart=>exact⟨0,Bd,rfl,HQ,c5,C0.1,C0.2.1,C0.2.2⟩
 case round=>
  clear HQ c5 C0;obtain⟨k,hk,rfl,HQ,hB,CF,CT,CR⟩:=hrel;have b2:=hB.size;by_cases b9:k<m.length
  ·have b3:Eb wr bm (.s a6 m.length a1) m:=d1.kp (Kp.of_below (e:=none) hB) Ck Ck Ck Ck Ck;have kc:=Bsb b3.1;obtain⟨o,g,hg,f3,b5,b4⟩:=b3.mth b9;replace b5:=Ub b5;have c6:=c4 _ (Bvh b9);have hd:(m.map Prod.fst).drop k=m[k].1::(m.map Prod.fst).drop (k+1):=by
    rw[Wr (by simpa using b9)];simp
   have hr:=Ba HQ;rw[hd,Jq]at hr;unfold Vg at hr;have c0:=fun w' (h:Bl wr w')=>Bir (ya:=ya) (yn:=yn) (yc:=yc) T (.p tg) a4 bm o m[k].1 w' (b4.below h) c6;have c1:=fun w' (h:Bl wr w')=>Bdj (ya:=ya) (yn:=yn) (yc:=yc) a5 a6 a7 a8 a1 m T tg a4 bm o m[k].1 w' (b4.below h) hT (c9.below (hB.trans (h.mono b2))) d0 (b3.kp (Kp.of_below (e:=none) h) Ck Ck Ck Ck Ck) c6 c4;have c7:((m.map Prod.fst).take k).length=k:=Fm;have b6:=fun w' (h:Bl wr w')=>Bk4 ((m.map Prod.fst).take k) a6 a1 o m[k].1 w' b4.cl b4.nm Bd (by
    intro f4 d2 j hj;have d3:j<m.length:=Bd;have d4:=h.trans (d2.mono h.size);obtain⟨o',g',d5,d6,d7,c8⟩:=(b3.kp (Kp.of_below (e:=none) d4) Ck Ck Ck Ck Ck).mth d3;refine⟨o',g',d5,d6,d7,?_,?_⟩
    ·rw[c8.cl];simp
    rw[c8.nm];simp)
   rw[c7]at b6;clear b4 b3 hd c7;generalize Py T m[k].1=A at *;generalize Si ((m.map Prod.fst).take k) m[k].1=B at *;generalize Mi T (m.map Prod.fst) m[k].1=C at *;obtain⟨t,z,D,F,G,I,J,L,N,O,cn,Q,V,Y,Z,ma,ml,mc⟩:=o;simp only[PM.val]at b5 c0 b6 c1;obtain⟨y0,y1,y2,y3,y4,y5,y6,y7,y8,y9⟩:=b5;subst hg;have d8:=Bc c0;have d9:=Bc b6;have f2:=Bc c1;clear c0 b6 c1 HQ;have b0:Bl wr (wr.alloc (O18 t z D F G I J L N O cn Q V Y Z ma ml mc)):=QN _;have a3:=Bf wr (O18 t z D F G I J L N O cn Q V Y Z ma ml mc);have c2:=Bk CF (O18 t z D F G I J L N O cn Q V Y Z ma ml mc);have c3:=Bk CT (O18 t z D F G I J L N O cn Q V Y Z ma ml mc);have f0:(wr.alloc (O18 t z D F G I J L N O cn Q V Y Z ma ml mc)).C w.heap.size 0 (.s a5 a7 a8):=(Bb c2 0).trans rfl;have f1:(wr.alloc (O18 t z D F G I J L N O cn Q V Y Z ma ml mc)).C w.heap.size 1 (.s (.p g) m.length a1):=(Bb c2 1).trans rfl;have t0:(wr.alloc (O18 t z D F G I J L N O cn Q V Y Z ma ml mc)).C (w.heap.size+1) 0 (.s (.p tg) T.length a4):=(Bb c3 0).trans rfl;have t1:(wr.alloc (O18 t z D F G I J L N O cn Q V Y Z ma ml mc)).C (w.heap.size+1) 1 (.s ya yn yc):=(Bb c3 1).trans rfl;have m0:(wr.alloc (O18 t z D F G I J L N O cn Q V Y Z ma ml mc)).C wr.heap.size 0 (.i t):=(Bb a3 0).trans rfl;have m1:(wr.alloc (O18 t z D F G I J L N O cn Q V Y Z ma ml mc)).C wr.heap.size 1 (.i z):=(Bb a3 1).trans rfl;have m2:(wr.alloc (O18 t z D F G I J L N O cn Q V Y Z ma ml mc)).C wr.heap.size 2 (.s D F G):=(Bb a3 2).trans rfl;have m3:(wr.alloc (O18 t z D F G I J L N O cn Q V Y Z ma ml mc)).C wr.heap.size 3 (.i I):=(Bb a3 3).trans rfl;have m4:(wr.alloc (O18 t z D F G I J L N O cn Q V Y Z ma ml mc)).C wr.heap.size 4 (.i J):=(Bb a3 4).trans rfl;have m5:(wr.alloc (O18 t z D F G I J L N O cn Q V Y Z ma ml mc)).C wr.heap.size 5 (.i L):=(Bb a3 5).trans rfl;have m6:(wr.alloc (O18 t z D F G I J L N O cn Q V Y Z ma ml mc)).C wr.heap.size 6 (.i N):=(Bb a3 6).trans rfl;have m7:(wr.alloc (O18 t z D F G I J L N O cn Q V Y Z ma ml mc)).C wr.heap.size 7 (.s O cn Q):=(Bb a3 7).trans rfl;have m8:(wr.alloc (O18 t z D F G I J L N O cn Q V Y Z ma ml mc)).C wr.heap.size 8 (.s V Y Z):=(Bb a3 8).trans rfl;have m9:(wr.alloc (O18 t z D F G I J L N O cn Q V Y Z ma ml mc)).C wr.heap.size 9 (.s ma ml mc):=(Bb a3 9).trans rfl;have lF:w.heap.size<(wr.alloc (O18 t z D F G I J L N O cn Q V Y Z ma ml mc)).heap.size:=Pk c2;have lT:w.heap.size+1<(wr.alloc (O18 t z D F G I J L N O cn Q V Y Z ma ml mc)).heap.size:=Pk c3;have c:wr.heap.size<(wr.alloc (O18 t z D F G I J L N O cn Q V Y Z ma ml mc)).heap.size:=Pk a3;have kb:(k:Int)<(m.length:Int):=Bd;have f5:(k:Int)<=(a1:Int):=Bd;have x0:=Bb CF 1;simp at x0;have a9:=Bc (fun (_:Unit)=>hr);clear hr;go_wp2;refine Bvz (S:=(fun w'=>w'.C w.heap.size 0 (.s a5 a7 a8)/\w'.C w.heap.size 1 (.s (.p g) m.length a1)/\w'.C (w.heap.size+1) 0 (.s (.p tg) T.length a4)/\w'.C (w.heap.size+1) 1 (.s ya yn yc)/\w'.C wr.heap.size 0 (.i t)/\w'.C wr.heap.size 1 (.i z)/\w'.C wr.heap.size 2 (.s D F G)/\w'.C wr.heap.size 3 (.i I)/\w'.C wr.heap.size 4 (.i J)/\w'.C wr.heap.size 5 (.i L)/\w'.C wr.heap.size 6 (.i N)/\w'.C wr.heap.size 7 (.s O cn Q)/\w'.C wr.heap.size 8 (.s V Y Z)/\w'.C wr.heap.size 9 (.s ma ml mc))) Le ⟨f0,f1,t0,t1,m0,m1,m2,m3,m4,m5,m6,m7,m8,m9⟩ (fun l=>?_);refine tq 0 (.agg #[.s (.p tg) T.length a4,.s ya yn yc]) l ?_;refine tq 1 (.agg #[.i t,.i z,.s D F G,.i I,.i J,.i L,.i N,.s O cn Q,.s V Y Z,.s ma ml mc]) l ?_;refine tr 2 fun K hK=>?_;go_simp;refine Qm (Ba d8 _ b0.drew) ?_;intro w7 b
   try dsimp only
   clear l;refine hK.out _ _ ⟨QC b lF f0,QC b lF f1,QC b lT t0,QC b lT t1,QC b c m0,QC b c m1,QC b c m2,QC b c m3,QC b c m4,QC b c m5,QC b c m6,QC b c m7,QC b c m8,QC b c m9⟩ (fun l=>?_);clear hK K
   try simp only[QX]
   cases A with
   | false =>
    refine tq 3 (.bool true) l ?_;refine tq 4 (.bool true) l ?_;refine tn 5 undef l ?_;refine tn 6 undef l ?_;refine tn 7 undef l ?_;refine tn 8 undef l ?_;refine tn 9 undef l ?_;refine tn 10 undef l ?_;refine tq 11 (.bool true) l ?_;refine tq 12 (.bool true) l ?_;refine tn 13 undef l ?_;refine tn 14 undef l ?_;refine tn 15 undef l ?_;refine tn 16 undef l ?_;refine tq 17 (.bool true) l ?_;refine Bv9 Le ?_ _;have hX:=(b0.drew).trans (b.mono (Bwr c));have b1:=hB.trans (hX.mono b2);have b7:=stay hX CF;have b8:=stay hX CT;have a2:=stay hX CR;clear l f0 f1 t0 t1 m0 m1 m2 m3 m4 m5 m6 m7 m8 m9;have hr:=Ba a9 ();clear a9;have HE:Hid (q=(k:Int)):=by unfold Hid;rw[<- hr];simp
    clear hr;obtain⟨z0,z1,z2⟩:=cl3 a2;obtain⟨q0,q1,q2⟩:=fr3 a2;have lR:=Pk a2;simp at z0 z1 z2;go_wp2_with fail;refine tb (.agg #[.i 4,.i (k:Int),.i 0]) (by simp[results,Bzc,go_sem,z0,z1,z2]) ?_;rw[Ba HE,Ze Bd];exact⟨rfl,((b1.setCell Fm _).setCell Fm _).setCell Fm _⟩
   | true =>
    refine tq 3 (.bool false) l ?_;refine tq 4 (.bool false) l ?_;refine tq 5 (.q w.heap.size 1) l ?_;refine tq 6 (.s (.p g) m.length a1) l ?_;refine tq 7 (.i (k:Int)) l ?_;refine tq 8 (.s (.p g) k a1) l ?_;refine tq 9 (.agg #[.i t,.i z,.s D F G,.i I,.i J,.i L,.i N,.s O cn Q,.s V Y Z,.s ma ml mc]) l ?_;refine tr 10 fun K hK=>?_;go_simp;refine Qm (Ba d9 _ (b0.drew.trans (b.mono (Bwr c)))) ?_;intro w8 f
    try dsimp only
    clear l;refine hK.out _ _ ⟨QC f (QL b lF) (QC b lF f0),QC f (QL b lF) (QC b lF f1),QC f (QL b lT) (QC b lT t0),QC f (QL b lT) (QC b lT t1),QC f (QL b c) (QC b c m0),QC f (QL b c) (QC b c m1),QC f (QL b c) (QC b c m2),QC f (QL b c) (QC b c m3),QC f (QL b c) (QC b c m4),QC f (QL b c) (QC b c m5),QC f (QL b c) (QC b c m6),QC f (QL b c) (QC b c m7),QC f (QL b c) (QC b c m8),QC f (QL b c) (QC b c m9)⟩ (fun l=>?_);clear hK K
    try simp only[QX]
    cases B with
    | true =>
     refine tq 11 (.bool true) l ?_;refine tq 12 (.bool true) l ?_;refine tn 13 undef l ?_;refine tn 14 undef l ?_;refine tn 15 undef l ?_;refine tn 16 undef l ?_;refine tq 17 (.bool true) l ?_;refine Bv9 Le ?_ _;have hX:=((b0.drew).trans (b.mono (Bwr c))).trans (f.mono (Bvv (Bwr c) b.size));have b1:=hB.trans (hX.mono b2);have b7:=stay hX CF;have b8:=stay hX CT;have a2:=stay hX CR;clear l f0 f1 t0 t1 m0 m1 m2 m3 m4 m5 m6 m7 m8 m9;have hr:=Ba a9 ();clear a9;have HE:Hid (q=(k:Int)):=by unfold Hid;rw[<- hr];simp
     clear hr;obtain⟨z0,z1,z2⟩:=cl3 a2;obtain⟨q0,q1,q2⟩:=fr3 a2;have lR:=Pk a2;simp at z0 z1 z2;go_wp2_with fail;refine tb (.agg #[.i 4,.i (k:Int),.i 0]) (by simp[results,Bzc,go_sem,z0,z1,z2]) ?_;rw[Ba HE,Ze Bd];exact⟨rfl,((b1.setCell Fm _).setCell Fm _).setCell Fm _⟩
    | false =>
     refine tq 11 (.bool false) l ?_;refine tq 12 (.bool false) l ?_;refine tq 13 (.agg #[.s a5 a7 a8,.s (.p g) m.length a1]) l ?_;refine tq 14 (.agg #[.s (.p tg) T.length a4,.s ya yn yc]) l ?_;refine tq 15 (.agg #[.i t,.i z,.s D F G,.i I,.i J,.i L,.i N,.s O cn Q,.s V Y Z,.s ma ml mc]) l ?_;refine tr 16 fun K hK=>?_;go_simp;refine Qm (Ba f2 _ ((b0.drew.trans (b.mono (Bwr c))).trans (f.mono (Bvv (Bwr c) b.size)))) ?_;intro w9 a0
     try dsimp only
     clear l;refine hK.out _ _ ⟨QC a0 (QL f (QL b lF)) (QC f (QL b lF) (QC b lF f0)),QC a0 (QL f (QL b lF)) (QC f (QL b lF) (QC b lF f1)),QC a0 (QL f (QL b lT)) (QC f (QL b lT) (QC b lT t0)),QC a0 (QL f (QL b lT)) (QC f (QL b lT) (QC b lT t1)),QC a0 (QL f (QL b c)) (QC f (QL b c) (QC b c m0)),QC a0 (QL f (QL b c)) (QC f (QL b c) (QC b c m1)),QC a0 (QL f (QL b c)) (QC f (QL b c) (QC b c m2)),QC a0 (QL f (QL b c)) (QC f (QL b c) (QC b c m3)),QC a0 (QL f (QL b c)) (QC f (QL b c) (QC b c m4)),QC a0 (QL f (QL b c)) (QC f (QL b c) (QC b c m5)),QC a0 (QL f (QL b c)) (QC f (QL b c) (QC b c m6)),QC a0 (QL f (QL b c)) (QC f (QL b c) (QC b c m7)),QC a0 (QL f (QL b c)) (QC f (QL b c) (QC b c m8)),QC a0 (QL f (QL b c)) (QC f (QL b c) (QC b c m9))⟩ (fun l=>?_);clear hK K
     try simp only[QX]
     refine tq 17 (.bool C) l ?_;refine Bv9 Le ?_ _;cases C with
     | true =>
      have hX:=(((b0.drew).trans (b.mono (Bwr c))).trans (f.mono (Bvv (Bwr c) b.size))).trans (a0.mono (Bvv (Bvv (Bwr c) b.size) f.size));have b1:=hB.trans (hX.mono b2);have b7:=stay hX CF;have b8:=stay hX CT;have a2:=stay hX CR;clear l f0 f1 t0 t1 m0 m1 m2 m3 m4 m5 m6 m7 m8 m9;have hr:=Ba a9 ();clear a9;have HE:Hid (q=(k:Int)):=by unfold Hid;rw[<- hr];simp
      clear hr;obtain⟨z0,z1,z2⟩:=cl3 a2;obtain⟨q0,q1,q2⟩:=fr3 a2;have lR:=Pk a2;simp at z0 z1 z2;go_wp2_with fail;refine tb (.agg #[.i 4,.i (k:Int),.i 0]) (by simp[results,Bzc,go_sem,z0,z1,z2]) ?_;rw[Ba HE,Ze Bd];exact⟨rfl,((b1.setCell Fm _).setCell Fm _).setCell Fm _⟩
     | false =>
      have hX:=(((b0.drew).trans (b.mono (Bwr c))).trans (f.mono (Bvv (Bwr c) b.size))).trans (a0.mono (Bvv (Bvv (Bwr c) b.size) f.size));have b1:=hB.trans (hX.mono b2);have b7:=stay hX CF;have b8:=stay hX CT;have a2:=stay hX CR;clear l f0 f1 t0 t1 m0 m1 m2 m3 m4 m5 m6 m7 m8 m9;have hr:=Ba a9 ();clear a9;have HG:Hid (Jq T (m.map Prod.fst) (k+1) ((m.map Prod.fst).drop (k+1))=q):=by unfold Hid;rw[<- hr];simp
      clear hr;go_wp2;go_roundw
      case rel=>exact⟨k+1,Bd,Lt,HG,b1,b7,b8,a2⟩
      case measure=>simp[intOf];omega
  have HE:Hid (q = -1):=by unfold Hid;rw[<- Ba HQ,Bvi Fm];rfl
  have kb:¬(k:Int)<(m.length:Int):=Bd;clear HQ;obtain⟨z0,z1,z2⟩:=cl3 CR;obtain⟨q0,q1,q2⟩:=fr3 CR;simp at z0 z1 z2;go_wp2_with fail;refine tb (.agg #[.i 0,.i 0,.i 0]) (by simp[results,Bzc,go_sem,z0,z1,z2]) ?_;rw[Ba HE];exact⟨rfl,((hB.setCell Fm _).setCell Fm _).setCell Fm _⟩
variable {ya:Option Addr}{yn yc:Nat}
def Bg3(D z:TA)(F A:Nat)(f:List (Rd.Cls×Value))(c:List (Rd.Mth×Eh))(T:TI)(G J bm:Nat)(w:TW)(hT:T.length<=1000)(b8:Dl w G T) (b9:c.length<=6)(c0:f.length<=6)(c1:∀p∈f,p.1.fields.length<=1000)(c2:Ex w bm (.s D f.length F) f)(a9:Eb w bm (.s z c.length A) c)(c3:∀p∈c,Uy p.1):Calls prog 107 #[.agg #[.s D f.length F,.s z c.length A],.agg #[.s (.p G) T.length J,.s ya yn yc]] w fun e w' => e=.r (.agg #[.i (Hk T (Cd.fieldSum (f.map Prod.fst):Int) (c.map fun p=>p.1.cl) 0 (c.map Prod.fst)).1,.i (Hk T (Cd.fieldSum (f.map Prod.fst):Int) (c.map fun p=>p.1.cl) 0 (c.map Prod.fst)).2.1, .i (Hk T (Cd.fieldSum (f.map Prod.fst):Int) (c.map fun p=>p.1.cl) 0 (c.map Prod.fst)).2.2])/\Bl w w':=by
 have b0:=fun cl nm pa pl pc r1 r2 st ca ha ma cc hc mc (m:Rd.Mth) c4 w' (h:Bl w w') h1 h2 h3 h4 h5 =>
  Bk6 D z F A G J ya yn yc cl nm pa pl pc r1 r2 st ca ha ma cc hc mc T bm f c m c4 w' hT (b8.below h) b9 c0 c1 (c2.kp (Kp.of_below (e:=none) h) Ck Ck) (a9.kp (Kp.of_below (e:=none) h) Ck Ck Ck Ck Ck) h1 h2 h3 h4 h5
 generalize (Cd.fieldSum (f.map Prod.fst):Int)=K at *;generalize (c.map fun p=>p.1.cl)=L at *;generalize hq:Hk T K L 0 (c.map Prod.fst)=q;obtain⟨R1,R2,R3⟩:=q;have B:Hid (Hk T K L 0 ((c.map Prod.fst).drop 0)=(R1,R2,R3)):=hq;have c5:=Bc b0;clear hq b0;have b3:=Is w (O1 D f.length F z c.length A) (O2 (.p G) T.length J ya yn yc) (O8 0 0 0);have C0:=W8 w (O1 D f.length F z c.length A) (O2 (.p G) T.length J ya yn yc) (O8 0 0 0);go_in;go_wp2
 go_loopw [11] (fun v wr=>∃k:Nat,k<=c.length/\v=.i (k:Int)/\Hid (Hk T K L k ((c.map Prod.fst).drop k)=(R1,R2,R3))/\Bl w wr/\wr.heap[w.heap.size]?=some (O1 D f.length F z c.length A) /\
   wr.heap[w.heap.size+1]?=some (O2 (.p G) T.length J ya yn yc)/\wr.heap[w.heap.size+1+1]?=some (O8 0 0 0))
  (fun v _=>c.length-(intOf v).toNat)
 case atStart=>exact⟨0,Bd,rfl,B,b3,C0.1,C0.2.1,C0.2.2⟩
 case round=>
  clear B b3 C0;obtain⟨k,hk,rfl,B,t,N,O,I⟩:=hrel;have a3:=t.size;by_cases a4:k<c.length
  ·have b4:Eb wr bm (.s z c.length A) c:=a9.kp (Kp.of_below (e:=none) t) Ck Ck Ck Ck Ck;obtain⟨o,g,hg,c9,a0,c6⟩:=b4.mth a4;replace a0:=Ub a0;have b5:=c3 _ (Bvh a4);have hd:(c.map Prod.fst).drop k=c[k].1::(c.map Prod.fst).drop (k+1):=by
    rw[Wr (by simpa using a4)];simp
   have C:=Ba B;rw[hd,Hk]at C;clear hd;generalize c[k].1=y at *;obtain⟨-,-,-,-,e5,-,-,-,e8,a5,e9,a6,b6,lm,a7,a8⟩:=c6;have b7:o.ml=lm.length:=by rw[b6,<- a7];simp
   obtain⟨cl,nm,pa,pl,pc,r1,r2,lo,st,ca,cn,cc,ha,hl,hc,ma,ml,mc⟩:=o;simp only at a0 e5 e8 e9 b7 a5 a6 a8;subst e5 e8 e9 b7;obtain⟨y0,y1,y2,y3,y4,y5,y6,y7,y8,y9⟩:=a0;have l:Bl wr (wr.alloc (O18 cl nm pa pl pc r1 r2 y.locals st ca y.code.length cc ha y.handlers.length hc ma lm.length mc)):=QN _;have a1:=Ba c5 cl nm pa pl pc r1 r2 st ca ha ma cc hc mc y lm _ (t.trans (l.mono a3)) b5 a7 (a5.kp (Kp.of_below (e:=none) l) Ck) (a6.kp (Kp.of_below (e:=none) l) Ck) (a8.kp (Kp.of_below (e:=none) l) Ck Ck);simp only[PBd.val]at a1;generalize hb:Ot T K L y=b at *;obtain⟨b1,b2⟩:=b;simp only at a1 C;have HC:=Bc a1;clear a1 hb b4 b5 b6 a7 a5 a6 a8 B;subst hg;obtain⟨x0,x1⟩:=cl2 N;obtain⟨t0,t1⟩:=cl2 O;simp at x0 x1 t0 t1;have lF:=Pk N;have lT:=Pk O;have kb:(k:Int)<(c.length:Int):=Bd;by_cases h0:b1=0
   ·subst h0;have HG:Hid (Hk T K L (k+1) ((c.map Prod.fst).drop (k+1))=(R1,R2,R3)):=by unfold Hid;rw[<- C];simp
    clear C;go_wp2_with fail;refine Qm (Ba HC) ?_;intro w2 Q;have j:=(QB l Q).alloc (Bvv l.size Q.size) (O8 0 0 b2);have a2:=t.trans (j.mono a3);have c7:=stay j N;have c8:=stay j O;have V:=stay j I;clear Q l j y0 y1 y2 y3 y4 y5 y6 y7 y8 y9 x0 x1 t0 t1 lF lT N O I t;go_wp2;go_roundw
    case rel=>exact⟨k+1,Bd,Lt,HG,a2,c7,c8,V⟩
    case measure=>simp[intOf];omega
   rw[Sp h0]at C;have HE:=Bc C;have d0:(b1 != 0)=true:=by simpa using h0
   clear C h0;go_wp2_with fail;refine Qb (Ba HC) l ?_;intro w2 Q j;have a2:=t.trans (j.mono a3);have V:=stay j I;have lR:=Pk V;have d1:=a2.size;have d2:=j.size;obtain⟨Y,Z,z2⟩:=cl3 V;obtain⟨q0,q1,q2⟩:=fr3 V;simp at Y Z z2;clear Q l j y0 y1 y2 y3 y4 y5 y6 y7 y8 y9 x0 x1 t0 t1 lF lT N O I t;go_wp2_with fail;refine tb (.agg #[.i b1,.i (k:Int),.i b2]) (by simp[results,results107,go_sem,Y,Z,z2,lR]) ?_;have e:=Ba HE;simp only[Prod.mk.injEq]at e;obtain⟨rfl,rfl,rfl⟩:=e;exact⟨rfl,(((a2.setCell Fm _).setCell Fm _).setCell Fm _).alloc Fm _⟩
  have HE:Hid ((R1,R2,R3)=((0:Int),(0:Int),(0:Int))):=by unfold Hid;rw[<- Ba B,Bvi Fm];rfl
  have kb:¬(k:Int)<(c.length:Int):=Bd;clear B;obtain⟨Y,Z,z2⟩:=cl3 I;obtain⟨q0,q1,q2⟩:=fr3 I;simp at Y Z z2;go_wp2_with fail;refine tb (.agg #[.i 0,.i 0,.i 0]) (by simp[results,results107,go_sem,Y,Z,z2]) ?_;have e:=Ba HE;simp only[Prod.mk.injEq]at e;obtain⟨rfl,rfl,rfl⟩:=e;exact⟨rfl,((t.setCell Fm _).setCell Fm _).setCell Fm _⟩
def Dl.set{b i:Nat}(h:Dl w u z)(f:b≠u)(c:TX):Dl (w.setCell (.a b i) c) u z :=
 ⟨by simpa[World.setCell] using h.1,fun j m=>by rw[Byu _ _ _ _ (by intro e;exact f (congrArg Addr.block e))];exact h.2 j m⟩
def Bro(A B:TA)(C D:Nat)(b:List (Rd.Cls×Value))(f:List (Rd.Mth×Eh))(L:Nat)(w:TW) (c5:f.length<=6)(b6:b.length<=6)(c6:∀p∈b,p.1.fields.length<=1000)(c7:Ex w L (.s A b.length C) b)(c8:Eb w L (.s B f.length D) f)(b7:∀p∈f,Uy p.1):Calls prog 68 #[.agg #[.s A b.length C,.s B f.length D]] w fun e c => e=.r (.agg #[.i (Ni ⟨b.map Prod.fst,f.map Prod.fst⟩).1,.i (Ni ⟨b.map Prod.fst,f.map Prod.fst⟩).2.1,.i (Ni ⟨b.map Prod.fst,f.map Prod.fst⟩).2.2])/\Bl w c:=by
 have a9:∀c,Bl w c->Ex c L (.s A b.length C) b:=fun c h=>c7.kp (Kp.of_below (e:=none) h) Ck Ck;have b8:∀c,Bl w c->Eb c L (.s B f.length D) f:=fun c h=>c8.kp (Kp.of_below (e:=none) h) Ck Ck Ck Ck Ck;have b9:=fun c (h:Bl w c)=>Bfo A B b.length C f.length D L b c b6 c6 (a9 c h);have c9:=fun c (h:Bl w c)=>Sn A B b.length C f.length D L b c b6 (a9 c h);have d0:(Tr.tree (b.map Prod.fst)).length<=1000:=by rw[Ix];simp;omega
 have d1:=fun ya yn yc g j c (h:Bl w c) F=>Bip (ya:=ya) (yn:=yn) (yc:=yc) A B b.length C D f (Tr.tree (b.map Prod.fst)) g j L c d0 F c5 (b8 c h) (fun p hp=>by have:=(b7 p hp).ps;omega);have b0:=fun ya yn yc g j c (h:Bl w c) F=>Bg3 (ya:=ya) (yn:=yn) (yc:=yc) A B C D b f (Tr.tree (b.map Prod.fst)) g j L c d0 F c5 b6 c6 (a9 c h) (b8 c h) b7;have d2:(f.map fun p=>p.1.cl)=(f.map Prod.fst).map Rd.Mth.cl:=Fr;rw[d2]at b0;generalize m:Ni ⟨b.map Prod.fst,f.map Prod.fst⟩=R;unfold Ni X9 at m;simp only at m;generalize Tr.tree (b.map Prod.fst)=T at *;generalize Tr.inCl T 0 (b.map Prod.fst)=ic at *;generalize Hk T (Cd.fieldSum (b.map Prod.fst):Int) ((f.map Prod.fst).map Rd.Mth.cl) 0 (f.map Prod.fst)=bo at *;generalize d8:Jq T (f.map Prod.fst) 0 (f.map Prod.fst)=hd at *;obtain⟨i1,G⟩:=ic;obtain⟨b1,b2,b3⟩:=bo;obtain⟨R1,R2,R3⟩:=R;simp only at b9 b0 m;have c2:=Bc b9;have d3:=Bc c9;have a0:=Bc d1;have d9:=Bc b0;clear b9 c9 d1 b0 a9 b8 c7 c8 d2 d8 b7;have N:=Bx w (O1 A b.length C B f.length D) (O8 0 0 0);have C0:=Cb w (O1 A b.length C B f.length D) (O8 0 0 0);have D0:=Bv w (O1 A b.length C B f.length D) (O8 0 0 0);by_cases h1:i1=0
 ·subst h1;rw[Pf Fr]at m;by_cases h2:0<=hd;·rw[Sp h2]at m;have HE:=Bc m;have a2:Ya hd=(4,hd):=Sp h2;rw[a2]at a0;simp only at a0;clear m a2 h2;go_in;go_wp2_with fail;refine Qm (Ba c2 _ N) ?_;intro l q;have O:=(QB N q);have I:=stay q C0;have v:=stay q D0;have b4:=O.size;have f0:=Pk v;obtain⟨x0,x1⟩:=cl2 I;have l1:=Pk I;simp at x0 x1;have J:=O.alloc b4 (O8 0 G 0);have a3:=Bk I (O8 0 G 0);have a4:=Bk v (O8 0 G 0);have a5:=Bf l (O8 0 G 0);clear C0 D0 N q;go_wp2_with fail;refine(Ba d3 _ J).mono ?_;rintro e w2 ⟨g,j,ya,yn,yc,rfl,F,-,-,z⟩;have a6:=J.trans (z.mono J.size);have Q:=stay z a3;have D2:=stay z a4;have E2:=stay z a5;have c3:=a6.size;obtain⟨y0,y1⟩:=cl2 Q;have l2:=Pk Q;simp at y0 y1;have K:=a6.alloc c3 (O2 (.p g) T.length j ya yn yc);have a7:=Bk D2 (O2 (.p g) T.length j ya yn yc);have a8:=Bk E2 (O2 (.p g) T.length j ya yn yc);clear x0 x1 l1 I v a3 a4 a5 J z;go_wp2_with fail;refine Qm (Ba a0 ya yn yc g j _ K (F.alloc _)) ?_;intro w3 t;have a1:=K.trans (t.mono K.size);have D3:=stay t a7;have E3:=stay t a8;have f1:=a1.size;have lE:=Pk E3;have lD:=Pk D3;obtain⟨e0,e1,e2⟩:=cl3 E3;obtain⟨g0,g1,g2⟩:=fr3 E3;obtain⟨V,Y,Z⟩:=cl3 D3;obtain⟨q0,q1,q2⟩:=fr3 D3;simp at e0 e1 e2 V Y Z;clear y0 y1 l2 Q D2 E2 a7 a8 K t;have f2:l.heap.size≠w.heap.size+1:=Bd;have b5:w.heap.size+1≠l.heap.size:=Bd;go_wp2_with fail;refine tb (.agg #[.i 4,.i hd,.i 0]) (by simp[results,B0n,go_sem,V,Y,Z]) ?_;have e:=Ba HE;simp only[Prod.mk.injEq]at e;obtain⟨rfl,rfl,rfl⟩:=e;exact⟨rfl,(((((a1.setCell Fm _).setCell Fm _).setCell Fm _).setCell Fr _).setCell Fr _).setCell Fr _⟩
  rw[Pf h2]at m;have HE:=Bc m;have a2:Ya hd=(0,0):=Pf h2;rw[a2]at a0;simp only at a0;clear m a2 h2;go_in;go_wp2_with fail;refine Qm (Ba c2 _ N) ?_;intro l q;have O:=(QB N q);have I:=stay q C0;have v:=stay q D0;have b4:=O.size;have f0:=Pk v;obtain⟨x0,x1⟩:=cl2 I;have l1:=Pk I;simp at x0 x1;have J:=O.alloc b4 (O8 0 G 0);have a3:=Bk I (O8 0 G 0);have a4:=Bk v (O8 0 G 0);have a5:=Bf l (O8 0 G 0);clear C0 D0 N q;go_wp2_with fail;refine(Ba d3 _ J).mono ?_;rintro e w2 ⟨g,j,ya,yn,yc,rfl,F,-,f3,z⟩;have a6:=J.trans (z.mono J.size);have Q:=stay z a3;have D2:=stay z a4;have E2:=stay z a5;have c3:=a6.size;obtain⟨y0,y1⟩:=cl2 Q;have l2:=Pk Q;simp at y0 y1;have K:=a6.alloc c3 (O2 (.p g) T.length j ya yn yc);have d4:=Bk Q (O2 (.p g) T.length j ya yn yc);have d5:=Bf w2 (O2 (.p g) T.length j ya yn yc);have a7:=Bk D2 (O2 (.p g) T.length j ya yn yc);have a8:=Bk E2 (O2 (.p g) T.length j ya yn yc);have f7:l.heap.size<w2.heap.size:=Pk E2;clear x0 x1 l1 I v a3 a4 a5 J z;go_wp2_with fail;refine Qm (Ba a0 ya yn yc g j _ K (F.alloc _)) ?_;intro w3 t;have a1:=K.trans (t.mono K.size);have D3:=stay t a7;have E3:=stay t a8;have f1:=a1.size;have lE:=Pk E3;have lD:=Pk D3;obtain⟨e0,e1,e2⟩:=cl3 E3;obtain⟨g0,g1,g2⟩:=fr3 E3;simp at e0 e1 e2;have C3:=stay t d4;have T3:=stay t d5;have lC:=Pk C3;have lT:=Pk T3;obtain⟨c0,c1⟩:=cl2 C3;obtain⟨t0,t1⟩:=cl2 T3;simp at c0 c1 t0 t1;have d6:=(F.alloc (O2 (.p g) T.length j ya yn yc)).below t;clear y0 y1 l2 Q D2 E2 a7 a8 d4 d5 K t;have f2:l.heap.size≠w.heap.size+1:=Bd;have b5:w.heap.size+1≠l.heap.size:=Bd;have f8:w2.heap.size≠l.heap.size:=Bd;have c4:l.heap.size≠g:=by simp at f3;omega
  have f4:=((d6.set (i:=0) c4 (.i 0)).set (i:=1) c4 (.i 0)).set (i:=2) c4 (.i 0);have d7:=((a1.setCell (p:=.a l.heap.size 0) Fm (.i 0)).setCell (p:=.a l.heap.size 1) Fm (.i 0)).setCell (p:=.a l.heap.size 2) Fm (.i 0);have D4:(((w3.setCell (.a l.heap.size 0) (.i 0)).setCell (.a l.heap.size 1) (.i 0)).setCell (.a l.heap.size 2) (.i 0)).heap[w.heap.size+1]?=some (O8 0 0 0):=by
   rw[Bvg _ _ _ _ (by simpa using b5),Bvg _ _ _ _ (by simpa using b5),Bvg _ _ _ _ (by simpa using b5)];exact D3
  clear D3 d6 F a1;go_wp2_with fail;refine Qb (Ba d9 ya yn yc g j _ d7 f4) d7 ?_;intro w5 f5 f6;have D5:=stay f5 D4;obtain⟨V,Y,Z⟩:=cl3 D5;obtain⟨q0,q1,q2⟩:=fr3 D5;simp at V Y Z;go_wp2_with fail;refine tb (.agg #[.i b1,.i b2,.i b3]) (by simp[results,B0n,go_sem,V,Y,Z]) ?_;have e:=Ba HE;simp only[Prod.mk.injEq]at e;obtain⟨rfl,rfl,rfl⟩:=e;exact⟨rfl,((f6.setCell Fr _).setCell Fr _).setCell Fr _⟩
 rw[Sp h1]at m;have HE:=Bc m;have f9:(i1 != 0)=true:=by simpa using h1
 clear m h1;go_in;go_wp2_with fail;refine Qm (Ba c2 _ N) ?_;intro l q;have O:=(QB N q);have v:=stay q D0;have b4:=O.size;have lD:=Pk v;obtain⟨V,Y,Z⟩:=cl3 v;obtain⟨q0,q1,q2⟩:=fr3 v;simp at V Y Z;go_wp2_with fail;refine tb (.agg #[.i i1,.i G,.i 0]) (by simp[results,B0n,go_sem,V,Y,Z,lD]) ?_;have e:=Ba HE;simp only[Prod.mk.injEq]at e;obtain⟨rfl,rfl,rfl⟩:=e;exact⟨rfl,(((O.setCell Fr _).setCell Fr _).setCell Fr _).alloc Fm _⟩
def Bgw{α β:Type}{l:List (α×β)}{r:List α}(h:l.map Prod.fst=r){P:α->Prop}(b:∀x∈r,P x):∀p∈l,P p.1:=by
 intro p c;refine b p.1 ?_;rw[<- h];exact Bwa c
def Biy{c:Int}{b:TI}:∀(l:List Rd.Mth) (k:Nat),(Hk z c b k l).1=0->Hk z c b k l=(0,0,0):=by
 intro l
 induction l with
 | nil=>intro k _;rfl
 | cons m r ih =>
  intro k h;unfold Hk at h ⊢;by_cases e:(Ot z c b m).1≠0;·rw[Sp e]at h;exact absurd h e
  rw[Pf e]at h ⊢;exact ih _ h
def Bog(f:Rd.Fil)(h:(Ni f).1=0):Ni f=(0,0,0):=by
 unfold Ni at h ⊢;by_cases b:(Tr.inCl (Tr.tree f.classes) 0 f.classes).1≠0;·rw[Sp b]at h;exact absurd h b
 rw[Pf b]at h ⊢;unfold X9 at h ⊢;by_cases c:0<=Jq (Tr.tree f.classes) f.methods 0 f.methods;·rw[Sp c]at h;simp at h
 rw[Pf c]at h ⊢;exact Biy _ _ h
def Bdy(s:ByteArray)(w:TW)(hs:s.size<=maxLen):Calls prog 45 #[.string s] w fun e w' => ∃f Q g j V l,e=.r (.tuple #[.agg #[.s f Q g,.s j V l],.agg #[.i (Ft s.data.toList).1,.i (Ft s.data.toList).2.1,.i (Ft s.data.toList).2.2]])/\((Ft s.data.toList).1=0->∃b c,b.map Prod.fst=(Rd.read s.data.toList).1.classes/\Ex w' w.heap.size (.s f Q g) b/\c.map Prod.fst=(Rd.read s.data.toList).1.methods/\Eb w' w.heap.size (.s j V l) c)/\Bl w w':=by
 have a0:=fun w=>Bpw s w hs;obtain⟨c5,a3⟩:=Vx s.data.toList;obtain⟨c6,a4⟩:=Xt s.data.toList;have a5:(Ft s.data.toList).1=0->Ft s.data.toList=(0,0,0):=by
  intro h;unfold Ft at h ⊢;by_cases m:(Rd.read s.data.toList).2≠0;·rw[Sp m]at h;exact absurd h m
  rw[Pf m]at h ⊢;exact Bog _ h
 generalize t:Ft s.data.toList=P at *;unfold Ft at t;generalize Rd.read s.data.toList=q at *;obtain⟨⟨cs,ms⟩,er⟩:=q;obtain⟨P1,P2,P3⟩:=P;simp only[Prod.mk.injEq]at a0 c5 a3 c6 a4 t a5 ⊢;have b3:=Bc a5;clear a5;have b4:=Bc a0;have c7:=Bc a3;have c8:=Bc a4;clear a0 a3 a4;have a6:=Bx w (O1 none 0 0 none 0 0) (O8 0 0 0);have C0:=Cb w (O1 none 0 0 none 0 0) (O8 0 0 0);have D0:=Bv w (O1 none 0 0 none 0 0) (O8 0 0 0);by_cases m:er=0
 ·subst m;rw[Pf Fr]at t;have HP:=Bc t;clear t;go_in;go_wp2_with fail;refine(Ba b4 _).mono ?_;rintro e p ⟨f,Q,g,j,V,l,rfl,⟨b,J,a7⟩,⟨c,K,a8⟩,v⟩;obtain⟨xa,xc,L⟩:=Bg a7.1;simp only[Value.slice.injEq]at L;obtain⟨rfl,rfl,rfl⟩:=L;obtain⟨xa,xc,L⟩:=Bg a8.1;simp only[Value.slice.injEq]at L;obtain⟨rfl,rfl,rfl⟩:=L;have N:=QB a6 v;have b5:=N.size;have z:=stay v C0;have A:=stay v D0;have lC:=Pk z;have lD:=Pk A;have b6:Ex p (w.heap.size+1+1) (.s f b.length g) b:=by simpa using a7
  have b7:Eb p (w.heap.size+1+1) (.s j c.length l) c:=by simpa using a8
  have a9:Kp none (w.heap.size+1+1) p (p.alloc (O1 f b.length g j c.length l)):=Kp.alloc _ _;have b0:=Bro f j g l b c (w.heap.size+1+1) (p.alloc (O1 f b.length g j c.length l))
   (by have:=congrArg List.length K;simp at this;omega) (by have:=congrArg List.length J;simp at this;omega) (Bgw J (Ba c8)) (b6.kp a9 Ck Ck) (b7.kp a9 Ck Ck Ck Ck Ck) (Bgw K (Ba c7))
  rw[J,K,Ba HP]at b0;have c9:=Bc b0;have b1:=N.alloc b5 (O1 f b.length g j c.length l);have b8:=Bk z (O1 f b.length g j c.length l);have b9:=Bk A (O1 f b.length g j c.length l);have c0:=Bf p (O1 f b.length g j c.length l);clear b0 a7 a8 v C0 D0 a6 z A a9;go_wp2_with fail;refine Qm (Ba c9) ?_;intro w2 B;have b2:=b1.trans (B.mono b1.size);have C2:=stay B b8;have D2:=stay B b9;have E2:=stay B c0;have c3:=(b6.kp (Kp.alloc (e:=none) p (O1 f b.length g j c.length l)) Ck Ck).kp (Kp.of_below (e:=none) B) Ck Ck;have c4:=(b7.kp (Kp.alloc (e:=none) p (O1 f b.length g j c.length l)) Ck Ck Ck Ck Ck).kp (Kp.of_below (e:=none) B) Ck Ck Ck Ck Ck;have d0:=b2.size;have Y:=Pk C2;have Z:=Pk D2;have d1:=Pk E2;obtain⟨x0,x1⟩:=cl2 E2;obtain⟨C,D⟩:=cl2 C2;obtain⟨F,G,I⟩:=cl3 D2;obtain⟨p0,p1⟩:=fr2 C2;obtain⟨q0,q1,q2⟩:=fr3 D2;simp at x0 x1 C D F G I;clear b8 b9 c0 b1 B;by_cases O:P1=0
  ·obtain⟨-,rfl,rfl⟩:=Ba b3 O;subst O;go_wp2_with fail;refine tb (.tuple #[.agg #[.s f b.length g,.s j c.length l],.agg #[.i 0,.i 0,.i 0]]) (by simp[results,B0o,go_sem,C,D,F,G,I,Y,Z]) ?_;have k1:Kp none (w.heap.size+1+1) w2 ((((((w2.setCell (.a w.heap.size 0) (.s f b.length g)).setCell (.a w.heap.size 1) (.s j c.length l)).setCell (.a (w.heap.size+1) 0) (.i 0)).setCell (.a (w.heap.size+1) 1) (.i 0)).setCell (.a (w.heap.size+1) 2) (.i 0)).alloc (O8 0 0 0)) :=
    (((((Kp.set_lo Bd _).trans (Kp.set_lo Bd _)).trans (Kp.set_lo Bd _)).trans (Kp.set_lo Bd _)).trans (Kp.set_lo Bd _)).trans (Kp.alloc _ _)
   refine⟨f,b.length,g,j,c.length,l,rfl,?_,?_⟩
   ·first|intro _;exact⟨b,c,J,(c3.kp k1 Ck Ck).mono Bd,K,(c4.kp k1 Ck Ck Ck Ck Ck).mono Bd⟩|exact⟨b,J,(c3.kp k1 Ck Ck).mono Bd,c,K,(c4.kp k1 Ck Ck Ck Ck Ck).mono Bd⟩
   exact(((((b2.setCell Fr _).setCell Fr _).setCell Fr _).setCell Fr _).setCell Fr _).alloc Fm _
  have d2:(P1 != 0)=true:=by simpa using O
  go_wp2;have H2:=Bc O;clear O
  go_region
  go_wp2_with fail;refine tb (.tuple #[.agg #[.s none 0 0,.s none 0 0],.agg #[.i P1,.i P2,.i P3]]) (by simp[results,B0o,go_sem,C,D,F,G,I,Y,Z]) ?_;refine⟨none,0,0,none,0,0,rfl,fun h=>absurd h (Ba H2),?_⟩;exact((((((b2.setCell Fr _).setCell Fr _).setCell Fr _).setCell Fr _).setCell Fr _).alloc Fm _).drew
 rw[Sp m]at t;have d3:(er != 0)=true:=by simpa using m
 simp only[Prod.mk.injEq]at t;obtain⟨rfl,rfl,rfl⟩:=t;have H1:=Bc m;clear m b3;go_in;go_wp2_with fail;refine(Ba b4 _).mono ?_;rintro e p ⟨f,Q,g,j,V,l,rfl,-,-,v⟩;have N:=QB a6 v;have b5:=N.size;have z:=stay v C0;have A:=stay v D0;have Y:=Pk z;have Z:=Pk A;obtain⟨C,D⟩:=cl2 z;obtain⟨F,G,I⟩:=cl3 A;obtain⟨p0,p1⟩:=fr2 z;obtain⟨q0,q1,q2⟩:=fr3 A;simp at C D F G I;go_wp2_with fail;refine tb (.tuple #[.agg #[.s none 0 0,.s none 0 0],.agg #[.i er,.i 0,.i 0]]) (by simp[results,B0o,go_sem,C,D,F,G,I,Y,Z]) ?_;refine⟨none,0,0,none,0,0,rfl,fun h=>absurd h (Ba H1),?_⟩;exact(((((N.setCell Fr _).setCell Fr _).setCell Fr _).setCell Fr _).setCell Fr _).alloc Fm _
def Bdg{α:Type}(f:α->TB)(c:Nat)(l:List α)(h:∀x∈l,(f x).length<=c):(l.flatMap f).length<=l.length*c:=by
 induction l with
 | nil=>simp
 | cons x r ih =>
  have e:=h x (Bv1 ..);have g:=ih (fun y b=>h y (Bv6 _ b));simp only[Bwj,Up,Bvo,Nat.add_mul];omega
def TyR (w:TW)(v:TX)(l:TP):Prop :=
 (v=.slice none 0 0/\l=[])\/∃g o c cur,v=.slice (some ⟨g,o,none⟩) l.length c/\w.heap[g]?=some (.cells cur 31 (0,0))/\l.length<=c/\c<=maxLen/\∀j x,(Bu l)[j]?=some x->w.cell? ⟨g,o+j,none⟩=some x
def TyR.nil(w:TW):TyR w (.s none 0 0) []:=.inl ⟨rfl,rfl⟩
def TyR.of_tys{i:TX}{q:TP}(h:Dp w u i q):TyR w i q:=by
 obtain⟨s,⟨e,t⟩|⟨g,z,A,e,F,f,B,C,G,D⟩⟩:=h
 ·exact .inl ⟨e,Bwc t⟩
 refine .inr ⟨g,0,z,A,e,f,B,C,fun j c m=>?_⟩;have p:j<(Bu q).length:=(List.getElem?_eq_some_iff.1 m).1;rw[Bvp,Bb f,<- m,<- D,Bww,Sp (by rw[s]at p;exact p)];simp
def TyR.below{b:TW}{i:TX}{q:TP}(h:TyR w i q)(f:Bl w b):TyR b i q:=by
 rcases h with h|⟨g,o,c,m,s,e,t,z,A⟩
 ·exact .inl h
 exact .inr ⟨g,o,c,m,s,(f.block g (Pk e)).trans e,t,z,fun j x B=>by rw[f.cell (p:=.a g (o+j)) (Pk e)];exact A j x B⟩
def TyR.shape{i:TX}{q:TP}(h:TyR w i q):∃a c,i=.s a q.length c:=by
 rcases h with ⟨rfl,rfl⟩|⟨g,o,c,e,b,_⟩
 ·exact⟨none,0,rfl⟩
 exact⟨_,c,b⟩
def TyR.cap{a:TA}{n c:Nat}{q:TP}(h:TyR w (.s a n c) q):n=q.length/\q.length<=c/\c<=maxLen:=by
 rcases h with ⟨b,rfl⟩|⟨g,o,i,j,e,_,b,f,_⟩
 ·simp only[Value.slice.injEq]at b;obtain⟨_,rfl,rfl⟩:=b;exact⟨rfl,Wf _,Bv5 _⟩
 simp only[Value.slice.injEq]at e;obtain⟨_,rfl,rfl⟩:=e;exact⟨rfl,b,f⟩
def TyR.at{a:TA}{n c:Nat}{q:TP}(h:TyR w (.s a n c) q)(j:0<q.length):∃g o,a=some ⟨g,o,none⟩/\g<w.heap.size/\∀k (b:k<q.length),w.C g (o+k*2) (.i q[k].1)/\w.C g (o+k*2+1) (.i q[k].2):=by
 rcases h with ⟨_,rfl⟩|⟨g,o,v,z,e,m,_,_,f⟩
 ·simp at j
 simp only[Value.slice.injEq]at e;refine⟨g,o,e.1,Pk m,fun k b=>?_⟩;obtain⟨p,t,_⟩:=Gc q k b;exact⟨f _ _ p,by rw[Byc];exact f _ _ t⟩
def Bak(l:TP)(k:Nat):Bu (l.take k)=(Bu l).take (k*2):=by
 induction l generalizing k with
 | nil=>simp[Bu]
 | cons x r ih =>
  cases k with
  | zero=>simp[Bu]
  | succ j =>
   have e:Bu (x::r)=.i x.1::.i x.2::Bu r:=by simp[Bu]
   have b:Bu (x::r.take j)=.i x.1::.i x.2::Bu (r.take j):=by simp[Bu]
   rw[Byq,e,b,ih,show (j+1)*2=j*2+1+1 by omega,Byq,Byq]
def Bhx(l:TP)(k:Nat):Bu (l.drop k)=(Bu l).drop (k*2):=by
 induction l generalizing k with
 | nil=>simp[Bu]
 | cons x r ih =>
  cases k with
  | zero=>simp[Bu]
  | succ j =>
   have e:Bu (x::r)=.i x.1::.i x.2::Bu r:=by simp[Bu]
   rw[Bzi,e,ih,show (j+1)*2=j*2+1+1 by omega,Bzi,Bzi]
def TyR.new1(w:TW)(k n:Int):TyR (w.alloc (O7 k n)) (.s (.p w.heap.size) 1 1) [(k,n)]:=by
 refine .inr ⟨w.heap.size,0,1,_,rfl,Bf w _,Fr,Mc,fun j x b=>?_⟩;rw[Bb (Bf w _),Bvp];simpa[Bu] using b
def TyR.new2(w:TW)(k n b c:Int):TyR (w.alloc (O22 k n b c)) (.s (.p w.heap.size) 2 2) [(k,n),(b,c)]:=by
 refine .inr ⟨w.heap.size,0,2,_,rfl,Bf w _,Fr,Mc,fun j x e=>?_⟩;rw[Bb (Bf w _),Bvp];simpa[Bu] using e
def Pv{q:Array Oper}{t:List Oper}{o:Oper}{a:Act}{Q:Exit->Act->TW->Prop}(z:o.guard=none)(s x:Operand) (A:o.op=.call { callee:=.builtin .append,args:=#[s,x],argTypes:=#[105,105] }) (e:Nat)(v:TX)(f b:TP)(B:TA)(C vc:Nat)(D:a.eval s=v)(m:w.ownsRow e 31 2 v f.length (Bu f))(F:a.eval x=.s B C vc)(J:TyR w (.s B C vc) b) (h1:f.length+b.length<=100000)(K:e<=w.heap.size) (h:∀l i,i.ownsRow e 31 2 l (f++b).length (Bu (f++b))->w.grownBy i v.ownBlock->wpList prog q Q t (a.put o.dst l) i):wpList prog q Q (o::t) a w:=by
 obtain⟨G,I,L,N,O⟩:=Bv4 Tryz.infoType;rcases J with ⟨p,rfl⟩|⟨g,V,c,a2,p,hg,hc,hm,Y⟩
 ·refine B0k z s x _ A e 31 G 2 Bwq I v _ _ D m (F.trans p) ?_;exact h v w (by simpa using m) (World.grownBy.refl _ _)
 refine Bvw w z s x _ A e 31 G _ 2 16 Bwq I L N O rfl Bd v _ _ D m ⟨g,V,none⟩ b.length c (Bu b) (F.trans p) (Kc b) ?_ (Va b) Mc Bd K ?_
 ·intro j u Z;rw[Bz3];exact Y j u Z
 intro l i a0 a1 _;exact h l i (by rw[Up,Ml];exact a0) a1
structure Be where
 locals:List (Int × Int)
 stack:List (Int × Int)
def Ei (r:Int × Int):List (Int × Int):=if r.1=0 then [] else [r]
def Er (a b:Int × Int)(l:TP):List (Int × Int):=l.map fun x=>if x=a then b else x
def Nz (T:TI):TP->TP->Bool
 | _,[]=>true
 | [],_::_=>false
 | s::ss,t::ts=>Tr.rfits T s.1 s.2 t.1 t.2&&Nz T ss ts
def Ig (T:TI)(st want:TP):Bool:=if st.length<want.length then false else Nz T (st.drop (st.length-want.length)) want
def Dk (T:TI)(a b:Be):Bool :=
 if a.stack.length≠b.stack.length then false else if a.locals.length≠b.locals.length then false else Ig T a.locals b.locals&&Ig T a.stack b.stack
def Bps(k:Int)(w:TW):Calls prog 141 #[.i k] w fun e b=>∃a c,e=.r (.s a 1 c)/\TyR b (.s a 1 c) [(k,0)]/\Bl w b:=by
 have h:=TyR.new1 w k 0;go_in;go_wp2;go_ret;exact⟨_,_,rfl,h,QN _⟩
def Tg(c:Int)(w:TW):Calls prog 142 #[.i c] w fun e b=>e=.r (.agg #[.i 3,.i c])/\Bl w b:=by
 go_in;go_wp2_with fail;refine tb (.agg #[.i 3,.i c]) (by simp[results,results142,go_sem]) ?_;exact⟨rfl,QN _⟩
def Bkf(m:RMV)(w:TW):Calls prog 143 #[m.val] w fun e f=>∃a c,e=.r (.s a (Ei (m.r1,m.r2)).length c)/\TyR f (.s a (Ei (m.r1,m.r2)).length c) (Ei (m.r1,m.r2))/\Bl w f:=by
 obtain⟨i,j,l,p,q,b,g,t,v,z,A,B,C,D,F,G,I,J⟩:=m;simp only[RMV.val];unfold Ei;simp only;by_cases h:b=0;·subst h;go_in;go_wp2;go_ret;exact⟨none,0,rfl,TyR.nil _,QN _⟩
 rw[Pf h];have L:(b==0)=false:=by simpa using h
 have K:=TyR.new1 (w.alloc (O12 i j l p q b g t v z A B C D F G I J)) b g;clear h;go_in;go_wp2;go_ret;exact⟨_,_,rfl,by simpa using K,Bx _ _ _⟩
def Cy{n:Nat}{a:TW}(h:Below u a w):Below u a (w.drewN n):=⟨h.os,h.tape,h.output,h.size,h.block⟩
def Bhw(a b:Int×Int)(l:TP)(q:Nat)(c:q<l.length):Er a b (l.take (q+1))=Er a b (l.take q)++[if l[q]=a then b else l[q]]:=by
 unfold Er;rw[Bvs c,Bvx];rfl
def Sc{i:TX}{l:TP}{n:Nat}(h:w.ownsRow u 31 2 i n (Bu l))(c:n=l.length):TyR w i l:=by
 subst c;exact TyR.of_tys h
structure FrV where
 la:Option Addr
 ln:Nat
 lc:Nat
 sa:Option Addr
 sn:Nat
 sc:Nat
def FrV.val(v:FrV):Value:=.agg #[.slice v.la v.ln v.lc,.slice v.sa v.sn v.sc]
structure FrV.is(v:FrV)(x:Be)(w:World):Prop where
 lo:TyR w (.slice v.la v.ln v.lc) x.locals
 st:TyR w (.slice v.sa v.sn v.sc) x.stack
 hl:x.locals.length<=5000
 hs:x.stack.length<=5000
def FrV.is.below{v:FrV}{x:Be}{b:TW}(h:v.is x w)(c:Bl w b):v.is x b:=⟨h.lo.below c,h.st.below c,h.hl,h.hs⟩
def Dx (op:Int):Bool:=decide (op=11\/op=12\/op=13\/op=14)
def Dz (op:Int):Bool:=decide (¬(op=11\/op=22\/op=23))
def Ka (p:Int):List Rd.Mp->Option Be
 | []=>none
 | m::r=>if m.place=p then some ⟨m.locals,m.stack⟩ else Ka p r
def Ef (x:Option Be):Be:=x.getD ⟨[],[]⟩
def Kv (cl:Int)(ps:TP):List (Int × Int):=(if cl=255 then [] else [(3,cl)])++ps
def Pp (cl:Int)(ps:TP)(lo:Nat):Be:=⟨Kv cl ps++List.replicate (lo-(Kv cl ps).length) (0,0),[]⟩
end Go.Proofs.YtpcgnjolfahacaaGreat
