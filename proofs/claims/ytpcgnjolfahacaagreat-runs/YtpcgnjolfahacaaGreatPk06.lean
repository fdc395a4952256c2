/- the proof's parts -/
import Derived.Test.YtpcgnjolfahacaaGreatPk05
set_option maxRecDepth 100000
set_option maxHeartbeats 40000000
set_option linter.unusedVariables false
set_option linter.unusedSimpArgs false
set_option linter.defProp false
namespace Go.Proofs.YtpcgnjolfahacaaGreat
open Go.RowKit Go.Proofs.Tryz
def La (T:TI)(m0:Option Bf)(x0:Bf)(ah:Nat->Option Bf)(lk:Nat->Bf->Int)(ps:List Nat):Int × Int :=
 if m0.isSome=true/\Cj T x0 (Cu m0)=false then (9,0) else Gd ah lk ps
theorem Bo8{w:World}{u b t:Nat}{c B e f h i j l:Int}{g m p:Option Addr}{O q s v z A:Nat}{C:ByteArray}{D F G I:Option Addr}{J K L N Q V Y Z:Nat}(hF:w.heap[u]?=some (O11 D J K F L N))(hM:w.heap[b]?=some (O12 c B g O q e f h i C m s v p z A j l)) (hY:w.heap[t]?=some (O21 G Q V I Y Z)):(w.cell? ⟨u,0,none⟩=some (.slice D J K)/\w.cell? ⟨u,1,none⟩=some (.slice F L N))/\(w.cell? ⟨t,0,none⟩=some (.slice G Q V)/\w.cell? ⟨t,1,none⟩=some (.slice I Y Z))/\w.cell? ⟨b,0,none⟩=some (.int .i64 c)/\w.cell? ⟨b,1,none⟩=some (.int .i64 B)/\w.cell? ⟨b,2,none⟩=some (.slice g O q)/\w.cell? ⟨b,3,none⟩=some (.int .i64 e)/\w.cell? ⟨b,4,none⟩=some (.int .i64 f)/\w.cell? ⟨b,5,none⟩=some (.int .i64 h)/\w.cell? ⟨b,6,none⟩=some (.int .i64 i)/\w.cell? ⟨b,7,none⟩=some (.string C)/\w.cell? ⟨b,8,none⟩=some (.slice m s v)/\w.cell? ⟨b,9,none⟩=some (.slice p z A)/\w.cell? ⟨b,10,none⟩=some (.int .i64 j)/\w.cell? ⟨b,11,none⟩=some (.int .i64 l):=by
 refine⟨⟨?_,?_⟩,⟨?_,?_⟩,Bf4 hM⟩
 ·rw[Bb hF];rfl
 ·rw[Bb hF];rfl
 ·rw[Bb hY];rfl
 rw[Bb hY];rfl
def Bcy(f:RFv)(T:TI)(m:RMV)(mp:Nat->Option Bf)(x0:Bf)(P:Bf->Prop)(V:Nat->Option Bf)(Z:Nat->Bf->Int)(w:TW)(hs:m.code.size<=100000)(hF:f.fitsAs T w) (c4:∀b,Bl w b->Calls prog 174 #[m.val] b fun e t=>∃u:FrV,e=.returned u.val/\u.is x0 t/\Bl b t) (d5:∀(q:Nat) b,Bl w b->Calls prog 172 #[m.val,.i (q:Int)] b fun e t=>∃u:FrV,e=.r (.tuple #[u.val,.bool (mp q).isSome])/\u.is (Cu (mp q)) t/\Bl b t) (c5:∀(q:Nat) b,Bl w b->q<=100000->Calls prog 175 #[f.val,m.val,.i (q:Int)] b fun e t=>∃u:FrV,e=.r (.tuple #[u.val,.bool (V q).isSome])/\(∀y,V q=some y->u.is y t/\P y)/\Bl b t) (c6:∀(q:Nat) (v:FrV) (x:Bf) b,Bl w b->q∈Cd.places (Ca m.code)->v.is x b->P x->Calls prog 176 #[f.val,m.val,.i (q:Int),v.val] b fun e t=>e=.r (.i (Z q x))/\Bl b t):Calls prog 119 #[f.val,m.val] w fun e b => e=.r (.tuple #[.i (La T (mp 0) x0 V Z (Cd.places (Ca m.code))).1,.i (La T (mp 0) x0 V Z (Cd.places (Ca m.code))).2])/\Bl w b:=by
 have c7:=fun (u u':FrV) (y y':Bf) b (h:Bl w b) hu g0=>Pv f T u u' y y' b (hF.below h) hu g0;have c8:=fun p b hp=>Lz m p b hp hs;have g1:=He m.code;generalize hR:La T (mp 0) x0 V Z (Cd.places (Ca m.code))=R;unfold La at hR;have hD:([]:List Nat)++Cd.starts (Ca m.code) (Ca m.code).length 0=Cd.places (Ca m.code):=rfl;have c9:∀b,Bl w b->Calls prog 172 #[m.val,.i 0] b fun e t=>∃u:FrV,e=.r (.tuple #[u.val,.bool (mp 0).isSome])/\u.is (Cu (mp 0)) t/\Bl b t:=fun b h=>d5 0 b h;generalize Ca m.code=c at *;obtain⟨b1,fl,b2,b3,fm,b4⟩:=f;obtain⟨cl,nm,pa,pl,pc,r1,r2,lo,st,a1,ha,hl,hc,ma,ml,mc,b5,b6⟩:=m;simp only[RMV.val,RFv.val,FrV.val]at hs c4 c9 c5 c6 c7 c8 g1 ⊢;have g2:=Bc c4;have g3:=Bc c9;have g4:=Bc c5;have g5:=Bc c6;have g6:=Bc c7;have g7:=Bc c8;have HD:=Bc hD;have d0:=Bc hR;clear c4 d5 c9 c5 c6 c7 c8 hD hF hR;have d6:=Bu w (O11 b1 fl b2 b3 fm b4) (O12 cl nm pa pl pc r1 r2 lo st a1 ha hl hc ma ml mc b5 b6);have F0:=Cb w (O11 b1 fl b2 b3 fm b4) (O12 cl nm pa pl pc r1 r2 lo st a1 ha hl hc ma ml mc b5 b6);have M0:=Bx w (O11 b1 fl b2 b3 fm b4) (O12 cl nm pa pl pc r1 r2 lo st a1 ha hl hc ma ml mc b5 b6);go_in;go_wp2_with fail;refine(Ba g3 _ d6).mono ?_;rintro e w1 ⟨u,rfl,hu,c0⟩;obtain⟨ua,un,uc,va,vn,vc⟩:=u;have d1:=QB d6 c0;have g8:=d1.size;have F1:=Bg (stay c0 F0) (O21 ua un uc va vn vc);have M1:=Bg (stay c0 M0) (O21 ua un uc va vn vc);have Y1:=Be w1 (O21 ua un uc va vn vc);have Q:=d1.alloc g8 (O21 ua un uc va vn vc);have a4:=hu.below (QN (O21 ua un uc va vn vc));clear c0 hu F0 M0;go_wp2
 go_region_held3 (fun b=>(b.C w.heap.size 0 (.s b1 fl b2)/\b.C w.heap.size 1 (.s b3 fm b4))/\(b.C w1.heap.size 0 (.s ua un uc)/\b.C w1.heap.size 1 (.s va vn vc))/\b.C (w.heap.size+1) 0 (.i cl)/\b.C (w.heap.size+1) 1 (.i nm)/\b.C (w.heap.size+1) 2 (.s pa pl pc)/\b.C (w.heap.size+1) 3 (.i r1)/\b.C (w.heap.size+1) 4 (.i r2)/\b.C (w.heap.size+1) 5 (.i lo)/\b.C (w.heap.size+1) 6 (.i st)/\b.C (w.heap.size+1) 7 (.string a1)/\b.C (w.heap.size+1) 8 (.s ha hl hc)/\b.C (w.heap.size+1) 9 (.s ma ml mc)/\b.C (w.heap.size+1) 10 (.i b5)/\b.C (w.heap.size+1) 11 (.i b6))
  (exact Bo8 (by repeat (first|exact F1|refine stay a2 ?_|refine stay a3 ?_)) (by repeat (first|exact M1|refine stay a2 ?_|refine stay a3 ?_)) (by repeat (first|exact Y1|refine stay a2 ?_|refine stay a3 ?_)))
  (first|(go_at_call 174;refine(Ba g2 _ Q.drew).mono ?_;rintro e w5 ⟨u5,rfl,d7,a2⟩;obtain⟨g9,h0,h1,h2,h3,h4⟩:=u5;have d2:=Q.drew.trans (a2.mono Fr);have d8:=(a4.below (Brm _ _).drew).below a2)|(go_at_call 173;refine(Ba g6 ⟨g9,h0,h1,h2,h3,h4⟩ ⟨ua,un,uc,va,vn,vc⟩ _ _ _ d2 d7 d8).mono ?_;rintro e w6 ⟨rfl,a3⟩))
 have c1:=QB d2 a3;have F6:=stay a3 (stay a2 (show _=_ from F1));have M6:=stay a3 (stay a2 (show _=_ from M1));clear a2 a3 a4 d8 d7 F1 M1 Y1 d2 Q d1;have g:=Ba d0;generalize Cj T x0 (Cu (mp 0))=FB at *;generalize (mp 0).isSome=SB at *;have h5:=c1.size
 go_upto_region 3 with fail
 go_cut [27] from 18 (fun h6 wx=>h6=.bool (SB && !FB)/\wx=w6)
 case first=>
  cases SB<;>cases FB
  all_goals
   go_wp2
   go_meet
   case rel=>exact⟨rfl,rfl⟩
 case rest=>
  obtain⟨rfl,rfl⟩:=hcut;have c2:(SB && !FB)=true<->(SB=true/\FB=false):=by cases SB<;>cases FB<;>simp
  generalize (SB && !FB)=BB at *;cases BB with
  | true =>
   rw[Th (c2.1 rfl)]at g;have HE:=Bc g;clear g d0 c2;go_wp2;go_ret2;exact⟨by rw[<- Ba HE];rfl,c1⟩
  | false =>
   rw[Pk (fun h=>by have:=c2.2 h;cases this)]at g;have HA:Hid (Gd V Z (Cd.starts c c.length 0)=R):=by unfold Hid;rw[<- g];rfl
   clear g d0 c2;go_wp2
   go_loopw [9] (fun s9 wr=>∃(p k:Nat) (d:List Nat),s9=.i (p:Int)/\p<=200000/\c.length<=p+k/\Hid (d++Cd.starts c k p=Cd.places c)/\Hid (Gd V Z (Cd.starts c k p)=R) /\
     Bl w wr/\wr.heap[w.heap.size]?=some (O11 b1 fl b2 b3 fm b4)/\wr.heap[w.heap.size+1]?=some (O12 cl nm pa pl pc r1 r2 lo st a1 ha hl hc ma ml mc b5 b6))
    (fun v _=>c.length-(intOf v).toNat)
   case atStart=>exact⟨0,c.length,[],rfl,Ck,Ck,HD,HA,c1,F6,M6⟩
   case round=>
    clear HA HD F6 M6 c1 h5;obtain⟨p,k,d,rfl,i2,hk,HD,HA,hB,F,M⟩:=hrel;have d9:=hB.size;by_cases h7:p<c.length
    ·have h8:p<a1.size:=Ck;have i3:(p:Int)<(a1.size:Int):=Ck;obtain⟨j,rfl,hj,f2⟩:=Cd.starts_go (c:=c) (k:=k) (p:=p) h7 hk;have hd:=Ba HD;have g:=Ba HA;rw[f2]at g hd;have h9:p∈Cd.places c:=by rw[<- hd];simp
     have i4:=Cd.wd_bd (c.getD p 0);have f3:Hid ((d++[p])++Cd.starts c j (p+Cd.wd (c.getD p 0))=Cd.places c):=by unfold Hid;rw[<- hd];simp
     have f4:=fun b=>Ba g7 p b h8;generalize Cd.wd (c.getD p 0)=c3 at *;rw[Gd]at g;have f5:=Bc f4;have f6:=fun b h=>Ba g4 p b h Ck;generalize V p=AP at *;have f7:=Bc f6;clear f4 f6 f2 hd HD HA;obtain⟨z,A,B,D,G,I,J,l,K,L,N,O⟩:=El M;simp at z A B D G I J l K L N O;obtain⟨f0,f1⟩:=cl2 F;simp at f0 f1;cases AP with
     | none =>
      have d3:Hid (Gd V Z (Cd.starts c j (p+c3))=R):=g;clear g;go_wp2_with fail;refine(Ba f7 _ hB).mono ?_;rintro e w2 ⟨u2,rfl,-,a0⟩;obtain⟨a5,a6,a7,a8,a9,b0⟩:=u2;have Q:=hB.trans (a0.mono d9);have b7:=Q.size;have F2:=stay a0 F;have M2:=stay a0 M;clear a0 z A B D G I J l K L N O f0 f1;obtain⟨z,A,B,D,G,I,J,l,K,L,N,O⟩:=El M2;simp at z A B D G I J l K L N O;have lM:=Sp M2;go_wp2_with fail;refine Qm (Ba f5 _) ?_;intro w3 Y;have b8:=(Q.alloc b7 (O21 a5 a6 a7 a8 a9 b0)).trans (Y.mono Fr);clear z A B D G I J l K L N O;go_wp2;go_roundw
      case rel=>exact⟨p+c3,j,d++[p],rfl,Ck,Ck,f3,d3,b8,stay Y (Bg F2 _),stay Y (Bg M2 _)⟩
      case measure=>simp[intOf];omega
     | some x =>
      simp only at g;go_wp2_with fail;refine(Ba f7 _ hB).mono ?_;rintro e w2 ⟨u2,rfl,a4,a0⟩;obtain⟨a4,i0⟩:=a4 x rfl;obtain⟨a5,a6,a7,a8,a9,b0⟩:=u2;have Q:=hB.trans (a0.mono d9);have b7:=Q.size;have F2:=stay a0 F;have M2:=stay a0 M;have d4:=Ba g5 p ⟨a5,a6,a7,a8,a9,b0⟩ x _ (Q.alloc b7 (O21 a5 a6 a7 a8 a9 b0)) h9 (a4.below (QN _)) i0;simp only at d4;generalize Z p x=LV at *;have f8:=Bc d4;clear a0 z A B D G I J l K L N O f0 f1 d4;obtain⟨z,A,B,D,G,I,J,l,K,L,N,O⟩:=El M2;simp at z A B D G I J l K L N O;obtain⟨f0,f1⟩:=cl2 F2;have lF:=Sp F2;have lM:=Sp M2;simp at f0 f1;by_cases b9:LV=0
      ·rw[Pk (by simpa using b9)]at g;have d3:Hid (Gd V Z (Cd.starts c j (p+c3))=R):=g;subst b9;clear g;go_wp2_with fail;refine Qm (Ba f8) ?_;intro w3 Y;have b8:=(Q.alloc b7 (O21 a5 a6 a7 a8 a9 b0)).trans (Y.mono Fr);have F3:=stay Y (Bg F2 _);have M3:=stay Y (Bg M2 _);clear Y z A B D G I J l K L N O f0 f1;obtain⟨z,A,B,D,G,I,J,l,K,L,N,O⟩:=El M3;simp at z A B D G I J l K L N O;go_wp2_with fail;refine Qb (Ba f5 _) b8 ?_;intro w4 f9 i1;clear z A B D G I J l K L N O;go_wp2;go_roundw
       case rel=>exact⟨p+c3,j,d++[p],rfl,Ck,Ck,f3,d3,i1,stay f9 F3,stay f9 M3⟩
       case measure=>simp[intOf];omega
      rw[Th b9]at g;have HE:=Bc g;have i5:(LV != 0)=true:=by simpa using b9
      clear g b9;go_wp2_with fail;refine Qm (Ba f8) ?_;intro w3 Y;have b8:=(Q.alloc b7 (O21 a5 a6 a7 a8 a9 b0)).trans (Y.mono Fr);go_wp2;go_ret2;exact⟨by rw[<- Ba HE];rfl,b8⟩
    have g:=Ba HA;rw[Cd.starts_end Ck,Gd]at g;have HE:=Bc g;have kb:¬(p:Int)<(a1.size:Int):=Ck;have l:=Bb M 7;simp at l;clear g HA HD;go_wp2;go_ret2;exact⟨by rw[<- Ba HE];rfl,hB⟩
variable {aa:Option Addr}{an ac:Nat}
def Lx (w:TW)(b:Nat)(v:TX)(l:List (Value × List (Int × Int))):Prop:=w.ownsRow b 105 1 v l.length (l.map Prod.fst)/\∀p∈l,TyR w p.1 p.2
def Lx.below{w s:TW}{u:Nat}{l:TX}{c:List (Value×List (Int×Int))}(h:Lx w u l c)(f:Bl w s):Lx s u l c :=
 ⟨Dc h.1 (Kp.of_below (e:=none) f) Fm,fun p g=>(h.2 p g).below f⟩
theorem Lx.at{w:World}{u:Nat}{a:Option Addr}{n t:Nat}{l:List (Value×List (Int×Int))}(h:Lx w u (.slice a n t) l){k:Nat}(i:k<l.length):∃g,a=some ⟨g,0,none⟩/\g<w.heap.size/\∃e f,w.cell? ⟨g,k,none⟩=some (.slice e l[k].2.length f)/\TyR w (.slice e l[k].2.length f) l[k].2:=by
 obtain⟨g,p,q,_,s⟩:=Cf h.1 Ck;have j:=h.2 l[k] (Brn i);obtain⟨e,f,m⟩:=j.shape;rw[m]at j;refine⟨g,p,q,e,f,?_,j⟩;rw[s k (by simpa using i),Bsf,Brl i];exact congrArg some m
def Ba1(l:List (Value×List (Int×Int)))(z:Nat)(ya:TA)(yc:Nat)(n:Int)(w:TW)(G:l.length<=1000)(I:0<=n/\n<=100000)(A:∀p∈l,p.2.length<=1000)(hF:Lx w z (.s ya l.length yc) l):Calls prog 300 #[.agg #[.s aa an ac,.s ya l.length yc],.i n] w fun e B => e=.r (.tuple #[.i (Dw n (l.map Prod.snd) 0 0).1,.i (Dw n (l.map Prod.snd) 0 0).2])/\Bl w B:=by
 generalize b:Dw n (l.map Prod.snd) 0 0=r;have c:Hid (Dw n ((l.map Prod.snd).drop 0) ((0:Nat):Int) ((0:Nat):Int)=r):=b;clear b;have h:Bl w (w.alloc (O2 aa an ac ya l.length yc)):=QN _;go_in;go_wp2
 go_loopw [6,12] (fun f v wr=>∃(k s:Nat),k<=l.length/\s<=1000*k/\f=.i (s:Int)/\v=.i (k:Int)/\Hid (Dw n ((l.map Prod.snd).drop k) (k:Int) (s:Int)=r)/\wr=w.alloc (O2 aa an ac ya l.length yc))
  (fun _ v _=>l.length-(intOf v).toNat)
 case atStart=>exact⟨0,0,Ck,Ck,rfl,rfl,c,rfl⟩
 case round=>
  clear c;obtain⟨k,s,J,K,rfl,rfl,c,rfl⟩:=hrel;by_cases j:k<l.length
  ·obtain⟨g,rfl,L,N,O,Q,-⟩:=(hF.below h).at j;have t:(l.map Prod.snd).drop k=l[k].2::(l.map Prod.snd).drop (k+1):=by rw[Brj (by simpa using j)];simp
   have b:=Ba c;have V:=A l[k] (Brn j);rw[t,Dw]at b;generalize l[k].2=own at *;have C:(k:Int)<(l.length:Int):=Ck;clear c t;by_cases D:(s:Int)<=n
   ·by_cases F:n-(s:Int)<(own.length:Int);·rw[Th ⟨D,F⟩]at b;have m:=Bc b;clear b;go_wp2;go_ret2;exact⟨by rw[<- Ba m];rfl,h⟩
    rw[Pk Ck]at b;have q:Hid (Dw n ((l.map Prod.snd).drop (k+1)) ((k+1:Nat):Int) ((s+own.length:Nat):Int)=r):=by unfold Hid;rw[<- b];push_cast;rfl
    clear b;go_wp2;go_roundw
    case rel=>exact⟨k+1,s+own.length,Ck,Ck,Mg,Mg,q,trivial⟩
    case measure=>simp[intOf];omega
   rw[Pk Ck]at b;have q:Hid (Dw n ((l.map Prod.snd).drop (k+1)) ((k+1:Nat):Int) ((s+own.length:Nat):Int)=r):=by unfold Hid;rw[<- b];push_cast;rfl
   clear b;go_wp2;go_roundw
   case rel=>exact⟨k+1,s+own.length,Ck,Ck,Mg,Mg,q,trivial⟩
   case measure=>simp[intOf];omega
  have b:=Ba c;rw[Brq Fr,Dw]at b;have m:=Bc b;have C:¬(k:Int)<(l.length:Int):=Ck;clear b c;go_wp2;go_ret2;exact⟨by rw[<- Ba m];rfl,h⟩
def Bfy(l:List (Value×List (Int×Int)))(t:Nat)(ya:TA)(yc:Nat)(c:Int)(w:TW)(z:l.length<=1000)(hF:Lx w t (.s ya l.length yc) l):Calls prog 301 #[.agg #[.s aa an ac,.s ya l.length yc],.i c] w fun e j => ∃b f,e=.r (.s b (Ln (l.map Prod.snd) c).length f)/\TyR j (.s b (Ln (l.map Prod.snd) c).length f) (Ln (l.map Prod.snd) c)/\Bl w j:=by
 have h:Bl w (w.alloc (O2 aa an ac ya l.length yc)):=QN _;unfold Ln;by_cases m:c<0;·rw[Th m];go_in;go_wp2;go_ret;exact⟨none,0,rfl,TyR.nil _,h⟩
 rw[Pk m];by_cases A:(l.length:Int)<=c
 ·have e:(l.map Prod.snd).getD c.toNat []=[]:=by rw[Vm,Bs3 Fr];rfl
  rw[e];go_in;go_wp2;go_ret;exact⟨none,0,rfl,TyR.nil _,h⟩
 obtain⟨q,rfl⟩:=Brp (show 0<=c by omega);have p:q<l.length:=Ck;obtain⟨g,rfl,B,b,f,C,v⟩:=(hF.below h).at p;have e:(l.map Prod.snd).getD ((q:Nat):Int).toNat []=l[q].2:=by simp[Vm,p]
 rw[e];generalize l[q].2=own at *;have D:(q:Int)<(l.length:Int):=Ck;clear e;go_in;go_wp2;go_ret;exact⟨b,f,rfl,v,h⟩
def Bbn(l:List (Value×List (Int×Int)))(L:Nat)(ya:TA)(yc:Nat)(n:Int)(w:TW)(V:l.length<=1000)(hn:0<=n/\n<=100000)(hf:∀p∈l,p.2.length<=1000)(hF:Lx w L (.s ya l.length yc) l):Calls prog 292 #[.agg #[.s aa an ac,.s ya l.length yc],.i n] w fun e v => e=.r (.tuple #[.i (J5 (l.map Prod.snd) n).1,.agg #[.i (J5 (l.map Prod.snd) n).2.1,.i (J5 (l.map Prod.snd) n).2.2]])/\Bl w v:=by
 have N:=fun v (h:Bl w v)=>Ba1 (aa:=aa) (an:=an) (ac:=ac) l L ya yc n v V hn hf (hF.below h);have B:=fun c v (h:Bl w v)=>Bfy (aa:=aa) (an:=an) (ac:=ac) l L ya yc c v V (hF.below h);unfold J5;generalize Dw n (l.map Prod.snd) 0 0=o at *;obtain⟨F,C⟩:=o;have B:=B F;simp only at N B ⊢;generalize Ln (l.map Prod.snd) F=own at *;have HO:=Bc N;have HW:=Bc B;clear N B hF;have Y:=Bu w (O2 aa an ac ya l.length yc) (O7 0 0);have Z:=Cb w (O2 aa an ac ya l.length yc) (O7 0 0);have R0:=Bx w (O2 aa an ac ya l.length yc) (O7 0 0);generalize f:(if C<0 then ((-1:Int),((0:Int),(0:Int))) else if (own.length:Int)<=C then (-1,(0,0)) else (F,own.getD C.toNat (0,0)))=A
 go_in;go_wp2_with fail;refine Qb (Ba HO _ Y) Y ?_;intro w1 O G;have I:=stay O Z;have z:=stay O R0;obtain⟨J,K⟩:=cl2 I;simp at J K;clear O Z R0;go_wp2_with fail;refine(Ba HW _ G).mono ?_;rintro e w2 ⟨xa,xc,rfl,ht,b⟩;by_cases Q:C<0;·rw[Th Q]at f;subst f;have D:=QB G b;have j:=stay b z;obtain⟨m,t⟩:=cl2 j;obtain⟨q0,q1⟩:=fr2 j;simp at m t;clear b I z J K;go_wp2;refine tb (.tuple #[.i (-1),.agg #[.i 0,.i 0]]) (by simp[results,Bwk,go_sem,m,t]) ?_;exact⟨rfl,by repeat (first|refine Bry ?_ Hd _|exact D)⟩
 rw[Pk Q]at f;obtain⟨q,rfl⟩:=Brp (show 0<=C by omega);by_cases h2:(own.length:Int)<=(q:Int);·rw[Th h2]at f;subst f;have D:=QB G b;have j:=stay b z;obtain⟨m,t⟩:=cl2 j;obtain⟨q0,q1⟩:=fr2 j;simp at m t;clear b I z J K;go_wp2;refine tb (.tuple #[.i (-1),.agg #[.i 0,.i 0]]) (by simp[results,Bwk,go_sem,m,t]) ?_;exact⟨rfl,by repeat (first|refine Bry ?_ Hd _|exact D)⟩
 rw[Pk h2]at f;have hq:q<own.length:=Ck;have e:own.getD ((q:Nat):Int).toNat (0,0)=own[q]:=by simp[Vm,hq]
 rw[e]at f;subst f;have kb:(q:Int)<(own.length:Int):=Ck;clear e Q;obtain⟨g,o,rfl,hg,a0⟩:=ht.at Ck;obtain⟨y0,y1⟩:=a0 q hq;have D:=QB G b;have j:=stay b z;obtain⟨m,t⟩:=cl2 j;obtain⟨q0,q1⟩:=fr2 j;simp at m t;clear b I z J K a0;go_wp2
 go_region
 all_goals
  go_wp2;refine tb (.tuple #[.i F,.agg #[.i own[q].1,.i own[q].2]]) (by simp[results,Bwk,go_sem,m,t]) ?_;exact⟨rfl,by repeat (first|refine Bud ?_|refine Bry ?_ Hd _|exact D)⟩
def Mm(T:TI)(b:List (List (Int×Int)))(c:Int)(e:∀p∈b,p.length<=1000):∀d:Nat,(Ek T b c d).length<=1000*d
 | 0=>by simp[Ek]
 | d+1=>by
  rw[Ek,Ws];have f:=Mm T b c e d;have:(b.getD d []).length<=1000:=by
   rw[Vm];rcases h:b[d]? with _|x
   ·simp
   simp;exact e x (Bs6 h)
  split
  ·omega
  rw[Bs2];omega
def Ti(T:TI)(t C:Nat)(l:List (Value×List (Int×Int)))(bb:Nat)(ya:TA)(yc:Nat)(c:Int)(w:TW)(hl:l.length<=14)(a3:T.length<=1000)(Y:∀p∈l,p.2.length<=1000)(hT:Dy w t T)(hF:Lx w bb (.s ya l.length yc) l):Calls prog 279 #[.agg #[.s (.p t) T.length C,.s ya l.length yc],.i c] w fun e Z => ∃F G,e=.r (.s F (Dk T (l.map Prod.snd) c).length G)/\Cq Z w.heap.size (.s F (Dk T (l.map Prod.snd) c).length G) (Dk T (l.map Prod.snd) c)/\Bl w Z:=by
 have a4:∀d,(Ek T (l.map Prod.snd) c d).length<=1000*d:=Mm T (l.map Prod.snd) c (fun p hp=>by obtain⟨q,hq,rfl⟩:=List.mem_map.1 hp;exact Y q hq);have HN:∀k,Ek T (l.map Prod.snd) c (k+1)=Ek T (l.map Prod.snd) c k++(if Tr.within T c (k:Int)=true then (l.map Prod.snd).getD k [] else []):=fun k=>rfl
 have H0:Ek T (l.map Prod.snd) c 0=[]:=rfl;have HE:Hid (Dk T (l.map Prod.snd) c=Ek T (l.map Prod.snd) c l.length):=by unfold Hid Dk;rw[Br1]
 rw[Ba HE];generalize Ek T (l.map Prod.snd) c=m at *;clear HE;have a0:Bl w (w.alloc (O2 (.p t) T.length C ya l.length yc)):=QN _;have T0:=Be w (O2 (.p t) T.length C ya l.length yc);go_in;go_wp2
 go_loopw [5,11] (fun u v wr=>∃k:Nat,k<=l.length/\v=.i (k:Int)/\wr.ownsRow w.heap.size 31 2 u (m k).length (Bp (m k))/\Bl w wr /\
   wr.heap[w.heap.size]?=some (O2 (.p t) T.length C ya l.length yc))
  (fun _ v _=>l.length-(intOf v).toNat)
 case atStart=>exact⟨0,Ck,rfl,by rw[H0];exact Brw _ _ _ _,a0,T0⟩
 case round=>
  clear a0 T0;obtain⟨k,hk,rfl,D,z,K⟩:=hrel;have a1:=z.size;obtain⟨ua,uc,rfl⟩:=Bh D;by_cases L:k<l.length
  ·have a5:=hF.below z;obtain⟨g,rfl,b0,F,G,y0,ht⟩:=a5.at L;have b1:=Y l[k] (Brn L);have h:=HN k;have e:(l.map Prod.snd).getD k []=l[k].2:=by simp[Vm,L]
   rw[e]at h;generalize l[k].2=own at *;have b2:=a4 k;have kb:(k:Int)<(l.length:Int):=Ck;obtain⟨t0,t1⟩:=cl2 K;simp at t0 t1;have A:=Pb (ya:=some ⟨g,0,none⟩) (yn:=l.length) (yc:=yc) T t C c (k:Int) wr a3 (hT.below z);cases I:Tr.within T c (k:Int) with
   | true =>
    rw[I]at A h;rw[Th rfl]at h;have N:=Bc A;have O:=Bc h;clear A h I e;go_wp2_with fail;refine Qm (Ba N) ?_;intro w1 f;have J:=z.trans (f.mono a1);have b3:=J.size;have Q:=stay f K;have B:=Dc D (Kp.of_below (e:=none) f) Fm;have a6:=ht.below f;clear f D ht;go_wp2_with (at_builtin;refine Jo rfl _ _ rfl w.heap.size _ (m k) own F own.length G rfl B rfl a6 Ck Ck ?_)
    intro v' w2 a2 V;have a7:=J.grown V Ck (fun j hj=>(B.lt j hj).1);have a8:=Kp.of_grown (b:=0) V B _ _ _ (Bsb _) Q Fm;have a9:w2.ownsRow w.heap.size 31 2 v' (m (k+1)).length (Bp (m (k+1))):=by rw[Ba O,Ws];exact a2
    clear V B a2;go_wp2;go_roundw
    case rel=>exact⟨k+1,Ck,Mg,a9,a7,a8⟩
    case measure=>simp[intOf];omega
   | false =>
    rw[I]at A h;rw[Pk Hd,Btg]at h;have N:=Bc A;have O:=Bc h;clear A h I e;go_wp2_with fail;refine Qm (Ba N) ?_;intro w1 f;have J:=z.trans (f.mono a1);have Q:=stay f K;have B:w1.ownsRow w.heap.size 31 2 (.s ua (m k).length uc) (m (k+1)).length (Bp (m (k+1))):=by rw[Ba O];exact Dc D (Kp.of_below (e:=none) f) Fm
    clear f;go_wp2;go_roundw
    case rel=>exact⟨k+1,Ck,Mg,B,J,Q⟩
    case measure=>simp[intOf];omega
  obtain rfl:k=l.length:=Ck;have kb:¬(l.length:Int)<(l.length:Int):=Ck;go_wp2;go_ret;exact⟨ua,uc,rfl,D,z⟩
structure BnC where
 tg:Nat
 tc:Nat
 ya:Option Addr
 yn:Nat
 yc:Nat
 hi:Int
 T:List Int
abbrev FrV.lv(v:FrV):Value:=.slice v.la v.ln v.lc
abbrev FrV.sv(v:FrV):Value:=.slice v.sa v.sn v.sc
def FrV.free(v:FrV)(k j:Nat):Prop:=j≠k/\v.lv.ownBlock≠some j/\v.sv.ownBlock≠some j
structure Ea(w:World)(B k:Nat)(c:BnC)(v:FrV)(b:Dv):Prop where
 blk:w.heap[k]?=some (O22 (some ⟨c.tg,0,none⟩) c.T.length c.tc c.ya c.yn c.yc v.la v.ln v.lc v.sa v.sn v.sc c.hi b.br)
 lo:Cq w B v.lv b.lo
 st:Cq w B v.sv b.st
 nk:v.lv.ownBlock≠some k/\v.sv.ownBlock≠some k
 ns:∀j,v.lv.ownBlock=some j->v.sv.ownBlock≠some j
 hB:B<=k
 tr:Dy w c.tg c.T
 tB:c.tg<B
 tl:c.T.length<=1000
 ll:b.lo.length<=1000
 sl:b.st.length<=5000
structure Bn(k:Nat)(w:World)(v:FrV)(w':World)(v':FrV):Prop where
 bel:Below 0 w w'
 blk:∀j,j<w.heap.size->v.free k j->w'.heap[j]?=w.heap[j]?/\v'.free k j
def Bn.refl(k:Nat)(w:TW)(v:FrV):Bn k w v w v:=⟨Brm _ _,fun _ _ h=>⟨rfl,h⟩⟩
def Bn.trans{k:Nat}{a s c:TW}{u v x:FrV}(h:Bn k a u s v)(g:Bn k s v c x):Bn k a u c x :=
 ⟨h.bel.trans g.bel,fun j i l=>by
  obtain⟨e,f⟩:=h.blk j i l;obtain⟨m,p⟩:=g.blk j (Brs i h.bel.size) f;exact⟨m.trans e,p⟩⟩
def Bn.of_below{k:Nat}{a s:TW}(v:FrV)(h:Bl a s):Bn k a v s v:=⟨⟨h.os,h.tape,h.output,h.size,fun _ c=>absurd c (Nat.not_lt_zero _)⟩,fun j c e=>⟨h.block j c,e⟩⟩
def Bn.stay{k b:Nat}{w s:TW}{v e:FrV}{o:Obj}(h:Bn k w v s e)(f:v.free k b)(c:w.heap[b]?=some o):s.heap[b]?=some o:=(h.blk b (Sp c) f).1.trans c
def Bn.free{k b:Nat}{w s:TW}{v c:FrV}(h:Bn k w v s c)(e:v.free k b)(f:b<w.heap.size):c.free k b:=(h.blk b f e).2
def Js{u b n:Nat}{j:TypeId}{l:TX}{e:TV}{w s:TW}(h:w.ownsRow u j b l n e)(m:∀f,l.ownBlock=some f->s.heap[f]?=w.heap[f]?):s.ownsRow u j b l n e:=by
 obtain⟨i,p|⟨g,q,z,a,c,d,r⟩⟩:=h
 ·exact⟨i,.inl p⟩
 exact⟨i,.inr ⟨g,q,z,a,c,by rw[m g (by rw[a];rfl)];exact d,r⟩⟩
def Ea.k_lt{w:TW}{u k:Nat}{c:BnC}{v:FrV}{b:Dv}(h:Ea w u k c v b):k<w.heap.size:=Sp h.blk
def Ea.low{w:TW}{u k t:Nat}{c:BnC}{v:FrV}{b:Dv}(h:Ea w u k c v b)(f:t<u):v.free k t :=
 ⟨by have:=h.hB;omega,fun e=>by have:=(h.lo.lt t e).1;omega,fun e=>by have:=(h.st.lt t e).1;omega⟩
def Ea.new{w:TW}{u k t:Nat}{c:BnC}{v:FrV}{b:Dv}(h:Ea w u k c v b)(f:w.heap.size<=t):v.free k t :=
 ⟨by have:=h.k_lt;omega,fun e=>by have:=(h.lo.lt t e).2;omega,fun e=>by have:=(h.st.lt t e).2;omega⟩
def Ea.B_le{w:TW}{u k:Nat}{c:BnC}{v:FrV}{b:Dv}(h:Ea w u k c v b):u<=w.heap.size:=Bsx (Bvt h.hB h.k_lt)
def Bn.low{w s:TW}{u k:Nat}{c:BnC}{v g:FrV}{b:Dv}(h:Bn k w v s g)(e:Ea w u k c v b):Below u w s :=
 ⟨h.bel.os,h.bel.tape,h.bel.output,h.bel.size,fun j f=>(h.blk j (Brs f e.B_le) (e.low f)).1⟩
def Ea.below{w s:TW}{u k:Nat}{c:BnC}{v:FrV}{b:Dv}(h:Ea w u k c v b)(e:Bl w s):Ea s u k c v b :=
 ⟨stay e h.blk,Js h.lo (fun j f=>e.block j (h.lo.lt j f).2),Js h.st (fun j f=>e.block j (h.st.lt j f).2),h.nk,h.ns,h.hB,h.tr.below e,h.tB,h.tl,h.ll,h.sl⟩
def Ea.alloc{w:TW}{u k:Nat}{c:BnC}{v:FrV}{b:Dv}(h:Ea w u k c v b)(o:Obj):Ea (w.alloc o) u k c v b:=h.below (QN o)
def Ea.drew{w:TW}{u k:Nat}{c:BnC}{v:FrV}{b:Dv}(h:Ea w u k c v b):Ea w.drew u k c v b:=h.below (Brm _ _).drew
def Bn.alloc{k:Nat}{w s:TW}{v b:FrV}(h:Bn k w v s b)(o:Obj):Bn k w v (s.alloc o) b:=h.trans (Bn.of_below b (QN o))
def Bn.drew{k:Nat}{w s:TW}{v b:FrV}(h:Bn k w v s b):Bn k w v s.drew b:=h.trans (Bn.of_below b (Brm _ _).drew)
def Mv{w s:TW}{u b:Nat}{z:TI}(h:Dy w u z)(e:u<b)(c:Below b w s):Dy s u z :=
 ⟨Brs h.1 c.size,fun i f=>by rw[c.cell (p:=.a u i) e];exact h.2 i f⟩
def Ea.setS{w:TW}{u k:Nat}{c:BnC}{v:FrV}{b:Dv}(h:Ea w u k c v b){sa:TA}{sn sc:Nat}{q:TP}(i:Cq w u (.s sa sn sc) q)(l:q.length<=5000) (g:(Value.slice sa sn sc).ownBlock≠some k)(m:∀j,v.lv.ownBlock=some j->(Value.slice sa sn sc).ownBlock≠some j):Ea (w.setCell (.a k 3) (.s sa sn sc)) u k c ⟨v.la,v.ln,v.lc,sa,sn,sc⟩ ⟨b.lo,q,b.br⟩ :=
 ⟨by rw[Bt h.blk];rfl,Js h.lo (fun j f=>Dg (fun e=>h.nk.1 (e▸f))),Js i (fun j f=>Dg (fun e=>g (e▸f))),⟨h.nk.1,g⟩,m,h.hB,
  Mv h.tr h.tB ((Brm u w).setCell (by simpa using h.hB) _),h.tB,h.tl,h.ll,l⟩
def Ea.brk{w:TW}{u k:Nat}{c:BnC}{v:FrV}{b:Dv}(h:Ea w u k c v b):Ea (w.setCell (.a k 5) (.bool true)) u k c v ⟨b.lo,b.st,true⟩ :=
 ⟨by rw[Bt h.blk];rfl,Js h.lo (fun j f=>Dg (fun e=>h.nk.1 (e▸f))),Js h.st (fun j f=>Dg (fun e=>h.nk.2 (e▸f))),h.nk,h.ns,h.hB,
  Mv h.tr h.tB ((Brm u w).setCell (by simpa using h.hB) _),h.tB,h.tl,h.ll,h.sl⟩
def Bn.setK{k i:Nat}{w s:TW}{v c v2:FrV}(h:Bn k w v s c)(u:TX)(e:v2.lv.ownBlock=c.lv.ownBlock)(f:v2.sv.ownBlock=c.sv.ownBlock):Bn k w v (s.setCell (.a k i) u) v2 :=
 h.trans ⟨(Brm 0 s).setCell Hd u,fun j _ b=>⟨Dg b.1,b.1,by rw[e];exact b.2.1,by rw[f];exact b.2.2⟩⟩
def Bn.brk{k:Nat}{w s:TW}{v b:FrV}(h:Bn k w v s b):Bn k w v (s.setCell (.a k 5) (.bool true)) b:=h.setK _ rfl rfl
def Blx{w:TW}{u n t:Nat}{a:TA}{q:TP}(h:Cq w u (.s a n t) q){O:Nat}(z:O<=q.length):Cq w u (.s a O t) (q.take O):=by
 have c:(q.take O).length=O:=Fr;obtain⟨A,⟨b,C⟩|⟨g,D,e,b,f,i,F,j,p,v⟩⟩:=h
 ·simp only[Value.slice.injEq]at b;obtain⟨rfl,rfl,rfl⟩:=b;have:O=0:=Ck;subst this;exact⟨by simp[Bp],.inl ⟨rfl,Hd⟩⟩
 simp only[Value.slice.injEq]at b;obtain⟨rfl,rfl,rfl⟩:=b;refine⟨by rw[Jm],.inr ⟨g,t,e,by rw[c],f,i,Ck,j,p,?_⟩⟩;rw[Ue,c,<- v,Btw]
 congr 1;omega
def Ea.setF{w:TW}{u k t O:Nat}{c:BnC}{v:FrV}{b:Dv}(h:Ea w u k c v b)(g:v.free k t)(m:u<=t)(f:TX):Ea (w.setCell (.a t O) f) u k c v b :=
 ⟨(Dg (Btj g.1)).trans h.blk,Js h.lo (fun x l=>Dg (fun e=>g.2.1 (e▸l))),Js h.st (fun x l=>Dg (fun e=>g.2.2 (e▸l))),h.nk,h.ns,h.hB,
  Mv h.tr h.tB ((Brm u w).setCell (by simpa using m) _),h.tB,h.tl,h.ll,h.sl⟩
def Bn.setF{k b t:Nat}{w s:TW}{v c:FrV}(h:Bn k w v s c)(m:w.heap.size<=b)(u:TX):Bn k w v (s.setCell (.a b t) u) c :=
 ⟨h.bel.setCell Hd u,fun x g l=>by
  obtain⟨e,f⟩:=h.blk x g l;exact⟨(Dg Ck).trans e,f⟩⟩
def Jr{P:Program}{B:Array Oper}{o:Oper}{a:Act}{w:TW}{K:Act->TW->Prop}{Q:Exit->Act->TW->Prop}{E:Prop} (C:o.guard=none)(s x:Operand)(t:TypeId)(D:o.op=Op.call { callee:=Callee.builtin Builtin.append,args:=#[s,x],argTypes:=#[t,t] }) (l:Nat)(e:TypeId)(i:TypeInfo)(z:TX)(b p:Nat)(F:P.underlying t=some (.s e))(G:P.info? e=some i)(I:i.zero=some z)(J:i.size=b)(L:i.bytes=p)(N:z.cells.size=b)(O:0<b) (v:TX)(n:Nat)(q:TV)(V:a.eval s=v)(Y:w.ownsRow l e b v n q) (A:Addr)(m c:Nat)(g:TV)(Z:a.eval x=.s (some A) m c)(hn:g.length=m*b)(hc:∀j u,g[j]?=some u->w.cell? (A.add j)=some u)(a0:∀u∈g,u.oneCell'=true) (b1:n+m<=maxLen)(b2:(n+m)*p<=140737488355328)(b3:l<=w.heap.size) (hK:∀f h,h.ownsRow l e b f (n+m) (q++g)->w.grownBy h v.ownBlock->(f.ownBlock=v.ownBlock\/f.ownBlock=some w.heap.size)->K (a.put o.dst f) h):if Region.wanted o (yielded B a.tmps)=true then Oper.wp P o a w K Q else E:=by
 have hw:Region.wanted o (yielded B a.tmps)=true:=by simp[Region.wanted,C]
 rw[Th hw];obtain⟨f,h,a1,r1,r2,_,r3⟩:=run_append_own_at (P:=P) w l t o.type e i z b p F G I J L N O v n q Y A m c g hn hc a0 b1 b2 b3;unfold Oper.wp;simp[execOp,D,resolve,invoke,builtin,V,Z,a1,Result.andThen];exact hK f h r1 r2 r3
def Ea.grown{w m:TW}{u k:Nat}{c:BnC}{v:FrV}{b:Dv}(h:Ea w u k c v b){g:TA}{t O:Nat}{st:TP}(l:w.grownBy m v.sv.ownBlock)(A:Cq m u (.s g t O) st)(C:st.length<=5000) (q:(Value.slice g t O).ownBlock=v.sv.ownBlock\/(Value.slice g t O).ownBlock=some w.heap.size):Ea (m.setCell (.a k 3) (.s g t O)) u k c ⟨v.la,v.ln,v.lc,g,t,O⟩ ⟨b.lo,st,b.br⟩/\Bn k w v (m.setCell (.a k 3) (.s g t O)) ⟨v.la,v.ln,v.lc,g,t,O⟩:=by
 have D:m.heap[k]?=_:=(l.block k h.k_lt (fun e=>h.nk.2 e.symm)).trans h.blk;have F:∀j,v.lv.ownBlock=some j->m.heap[j]?=w.heap[j]?:=fun j i=>l.block j (h.lo.lt j i).2 (fun e=>h.ns j i e.symm);have z:(Value.slice g t O).ownBlock≠some k:=by
  rcases q with e|e
  ·rw[e];exact h.nk.2
  rw[e];intro f;have:=h.k_lt;simp at f;omega
 have G:∀j,v.lv.ownBlock=some j->(Value.slice g t O).ownBlock≠some j:=by
  intro j i;rcases q with e|e
  ·rw[e];exact h.ns j i
  rw[e];intro f;have:=(h.lo.lt j i).2;simp at f;omega
 have I:Below u w m:=⟨l.os,l.tape,l.output,l.size,fun j i=>l.block j (Brs i h.B_le) (fun e=>by have:=(h.st.lt j e.symm).1;omega)⟩;have J:Ea m u k c v ⟨b.lo,b.st,b.br⟩->True:=fun _=>trivial;clear J;refine⟨⟨by rw[Bt D];rfl,Js (Js h.lo F) (fun j i=>Dg (fun e=>h.nk.1 (e▸i))),Js A (fun j i=>Dg (fun e=>z (e▸i))),⟨h.nk.1,z⟩,G,h.hB,
  Mv (Mv h.tr h.tB I) h.tB ((Brm u m).setCell (by simpa using h.hB) _),h.tB,h.tl,h.ll,C⟩,?_⟩
 refine⟨(⟨l.os,l.tape,l.output,l.size,fun j i=>absurd i (Nat.not_lt_zero _)⟩:Below 0 w m).setCell Hd _,fun j i p=>⟨?_,p.1,p.2.1,?_⟩⟩
 ·rw[Dg p.1];exact l.block j i (fun e=>p.2.2 e.symm)
 rcases q with e|e
 ·exact fun f=>p.2.2 (e.symm.trans f)
 intro f;rw[e]at f;simp at f;omega
def Vr(w:TW):Calls prog 166 #[] w fun e b=>e=.r (.agg #[.i 0,.i 0])/\Bl w b:=by
 go_in;go_wp2;refine tb (.agg #[.i 0,.i 0]) (by simp[results,results166,go_sem]) ?_;exact⟨rfl,by repeat (first|refine Bry ?_ Hd _|refine Bs4 ?_ Hd _|exact Brm _ _)⟩
def L8(w:TW)(B k:Nat)(c:BnC)(v:FrV)(b:Dv)(h:Ea w B k c v b):Calls prog 265 #[.q k 0] w fun e Q=>e=.r (.agg #[.i (Bj b).1.1,.i (Bj b).1.2])/\∃V,Ea Q B k c V (Bj b).2/\Bn k w v Q V:=by
 have Y:=h.alloc (O7 0 0);have Z:=(Bn.refl k w v).alloc (O7 0 0);have b5:=h.k_lt;have a0:=h.B_le;have a7:=h.new (Bru _);have RA:=Be w (O7 0 0);obtain⟨j,l,z,sa,sn,sc⟩:=v;obtain⟨D,f,I⟩:=b;obtain⟨xa,xc,a1⟩:=Bh h.st;simp only[Value.slice.injEq]at a1;obtain⟨rfl,a8,rfl⟩:=a1;subst a8;have A:=h.blk;have c3:=Bb A 3;have c5:=Bb A 5;have f5:=Bk A 5;have f3:=Bk A 3;simp at c3 c5;have C:=h.st;have a9:=h.sl;simp only at C a9;by_cases hz:f.length=0
 ·have e:Bj ⟨D,f,I⟩=((0,0),⟨D,f,true⟩):=by unfold Bj;rw[Th hz]
  rw[e];have b6:(f.length:Int)=0:=Ck;have a2:=(h.brk).alloc (O7 0 0);have a3:=((Bn.refl k w ⟨j,l,z,sa,f.length,sc⟩).brk).alloc (O7 0 0);have J:=Be (w.setCell (.a k 5) (.bool true)) (O7 0 0);have a4:(w.setCell (.a k 5) (.bool true)).heap.size=w.heap.size:=by simp[World.setCell]
  rw[a4]at J;clear e C A a4;go_in;go_wp2_with fail;refine Qm (Vr _) ?_;intro w1 F;have b0:=a2.below F;have a5:=a3.trans (Bn.of_below _ F);have K:=stay F J;obtain⟨r0,r1⟩:=cl2 K;obtain⟨q0,q1⟩:=fr2 K;have lr:=Sp K;have b7:=a5.bel.size;simp at r0 r1;clear F Y a2 Z a3 RA J;have a6:FrV.free ⟨j,l,z,sa,f.length,sc⟩ k w.heap.size:=a7;go_wp2;refine tb (.agg #[.i 0,.i 0]) (by simp[results,results265,go_sem,r0,r1]) ?_;exact⟨rfl,_,(b0.setF a6 a0 _).setF a6 a0 _,(a5.setF (Bru _) _).setF (Bru _) _⟩
 obtain⟨m,G⟩:∃m,f.length=m+1:=⟨f.length-1,Ck⟩;have e:Bj ⟨D,f,I⟩=(f.getD m (0,0),⟨D,f.take m,I⟩):=by unfold Bj;rw[Pk hz];simp only[G,Bvu]
 rw[e];obtain⟨g,hg,b8,_,L⟩:=Cf C Ck;obtain⟨t1,t2,t3⟩:=Fu f m Ck;have y0:=(L (m*2) Ck).trans t1;have y1:=(L (m*2+1) Ck).trans t2;have e2:f.getD m (0,0)=f[m]:=by simp[Vm,G]
 rw[e2];generalize f[m]=t at *;obtain⟨b1,b2⟩:=t;simp only at y0 y1 ⊢;subst hg;have N:=h.nk.2;have O:=h.ns;simp only[G]at N O;have hS:=h.setS (sa:=some ⟨g,0,none⟩) (sn:=m) (sc:=sc) (Blx C Ck) Fr N O;have GS:=(Bn.refl k w ⟨j,l,z,some ⟨g,0,none⟩,f.length,sc⟩).setK (i:=3) (v2:=⟨j,l,z,some ⟨g,0,none⟩,m,sc⟩) (.s (.p g) m sc) rfl rfl;obtain⟨-,b3,b4⟩:=(TyR.of_tys C).cap;simp only at b3 b4;have kb:(m:Int)<(f.length:Int):=Ck;have kw:IntKind.i64.wrap ((f.length:Int)-1)=(m:Int):=by rw[Cx _ Ck (by unfold maxLen at *;omega)];omega
 have kc:(m:Int)<=(sc:Int):=Ck;have km:m<=sc:=Ck;clear e e2 Y Z RA L t1 t2 t3 N O G;go_in;go_wp2;refine tb (.agg #[.i b1,.i b2]) (by simp[results,results265,go_sem]) ?_;exact⟨rfl,⟨j,l,z,some ⟨g,0,none⟩,m,sc⟩,(hS.alloc _).alloc _,(GS.alloc _).alloc _⟩
def Nd(w:TW)(B k:Nat)(c:BnC)(v:FrV)(b:Dv)(g l:Int)(h:Ea w B k c v b)(a8:b.st.length<5000):Calls prog 266 #[.q k 0,.agg #[.i g,.i l]] w fun e G=>e=.r (.tuple #[])/\∃I,Ea G B k c I (Ed c.hi (g,l) b)/\Bn k w v G I:=by
 have t:=h.alloc (O7 g l);have GA:=(Bn.refl k w v).alloc (O7 g l);have b0:=h.k_lt;have b1:=h.B_le;obtain⟨la,ln,lc,L,sn,N⟩:=v;obtain⟨lo,st,br⟩:=b;obtain⟨xa,xc,a7⟩:=Bh h.st;simp only[Value.slice.injEq]at a7;obtain⟨rfl,a9,rfl⟩:=a7;subst a9;have V:=Bb t.blk 3;have Y:=Bb t.blk 4;have c5:=Bb t.blk 5;have f5:=Bk t.blk 5;have f3:=Bk t.blk 3;have PA:=Be w (O7 g l);obtain⟨p0,p1⟩:=cl2 PA;simp at V Y c5 p0 p1;obtain⟨Z,hi,a0,a1,a2⟩:=Bsa Tryz.infoType;simp only at a8;have a3:(w.alloc (O7 g l)).ownsRow B 31 2 (.s L st.length N) st.length (Bp st):=t.st;have a4:=h.nk.2;unfold Ed;by_cases hz:c.hi<=(st.length:Int)
 ·rw[Th hz];go_in;go_wp2
  go_region_held3 (fun G=>G.C k 3 (.s L st.length N)/\G.C k 4 (.i c.hi)) (exact⟨V,Y⟩) (fail)
  go_wp2;refine tb (.tuple #[]) (by simp[results,results266,go_sem]) ?_;exact⟨rfl,_,(h.brk.alloc _).drew,(((Bn.refl k w ⟨la,ln,lc,L,st.length,N⟩).brk).alloc _).drew⟩
 rw[Pk hz];have a5:∀j u,[Value.int .i64 g,.i l][j]?=some u->((w.alloc (O7 g l)).alloc (O7 g l)).drew.drew.cell? ((⟨w.heap.size+1,0,none⟩:Addr).add j)=some u:=by
  intro j u hu;exact Dh (w.alloc (O7 g l)) [.i g,.i l] 31 (w.heap.size+1) Hd j u hu
 have a6:∀D F J,J.ownsRow B 31 2 (.s D (st.length+1) F) (st.length+1) (Bp st++[.i g,.i l])->World.grownBy ((w.alloc (O7 g l)).alloc (O7 g l)).drew.drew J (Value.slice L st.length N).ownBlock ->
   ((Value.slice D (st.length+1) F).ownBlock=(Value.slice L st.length N).ownBlock\/(Value.slice D (st.length+1) F).ownBlock=some ((w.alloc (O7 g l)).alloc (O7 g l)).drew.drew.heap.size)->∃I,Ea (J.setCell (.a k 3) (.s D (st.length+1) F)) B k c I ⟨lo,st++[(g,l)],br⟩/\Bn k w ⟨la,ln,lc,L,st.length,N⟩ (J.setCell (.a k 3) (.s D (st.length+1) F)) I:=by
  intro D F J z A O;have hG:=((t.alloc (O7 g l)).drew.drew).grown (st:=st++[(g,l)]) A (by unfold Cq;rw[Ib,Ws];exact z) Fr O;exact⟨_,hG.1,(((GA.alloc (O7 g l)).drew.drew).trans hG.2)⟩
 go_in;go_wp2
 go_region_held3 (fun G=>G.C k 3 (.s L st.length N)/\G.C k 4 (.i c.hi)) (exact⟨V,Y⟩) (fail)
 go_wp2
 -- MOVES
 refine Br4 (S:=fun _=>True) Lt trivial (fun m=>?_);refine tq 0 (.q k 0) m ?_;refine tq 1 (.q k 0) m ?_;refine tq 2 (.q k 0) m ?_;refine tq 3 (.q k 3) m ?_;refine Brv (rs:=[4,5]) Lt Hd ?_;refine Bri (o:=⟨_,_,_,_,_,_⟩) rfl (fun K f=>?_) (Bri (o:=⟨_,_,_,_,_,_⟩) rfl (fun K f=>?_) Bro)
 ·go_simp;refine f.out _ _ trivial (fun m=>?_);clear f K
  try simp only[QX]
  refine tr 5 fun K f=>?_;go_simp;refine f.out _ _ trivial (fun m=>?_);clear f K
  try simp only[QX]
  refine tr 6 fun K f=>?_;go_simp;refine f.out _ _ trivial (fun m=>?_);clear f K
  try simp only[QX]
  refine tr 7 fun K f=>?_;refine Jr Ls _ _ _ Ls B 31 Z _ 2 16 Bsk hi a0 a1 a2 rfl Ck _ _ _ Ls ((a3.alloc (O7 g l)).drew.drew) ⟨w.heap.size+1,0,none⟩ 1 1 [.i g,.i l] Ls Ls a5 (by simp[Value.oneCell']) Pf Ck Fr ?_;intro I J z A O;obtain⟨D,F,rfl⟩:=Bh z;have p:=(A.block k Fr (fun e=>a4 e.symm)).trans (Bg t.blk (O7 g l));have Q:=Bb p 3;have f2:=Bk p 3;have l2:=Sp p;simp at Q;refine f.out _ _ trivial (fun m=>?_);clear f K
  try simp only[QX]
  refine tq 8 (.q k 0) m ?_;refine tq 9 (.q k 3) m ?_;refine tr 10 fun K f=>?_;go_simp;refine f.out _ _ trivial (fun m=>?_);clear f K
  try simp only[QX]
  refine Bsg Lt ?_ _;go_wp2;go_end0;exact⟨rfl,a6 _ _ _ z A O⟩
 ·go_simp;refine f.out _ _ trivial (fun m=>?_);clear f K
  try simp only[QX]
  refine Brv (rs:=[4,6]) Lt Hd ?_;refine Bri (o:=⟨_,_,_,_,_,_⟩) rfl (fun K f=>?_) (Bri (o:=⟨_,_,_,_,_,_⟩) rfl (fun K f=>?_) Bro)
  ·go_simp;refine f.out _ _ trivial (fun m=>?_);clear f K
   try simp only[QX]
   refine tr 6 fun K f=>?_;go_simp;refine f.out _ _ trivial (fun m=>?_);clear f K
   try simp only[QX]
   refine tr 7 fun K f=>?_;refine Jr Ls _ _ _ Ls B 31 Z _ 2 16 Bsk hi a0 a1 a2 rfl Ck _ _ _ Ls ((a3.alloc (O7 g l)).drew.drew) ⟨w.heap.size+1,0,none⟩ 1 1 [.i g,.i l] Ls Ls a5 (by simp[Value.oneCell']) Pf Ck Fr ?_;intro I J z A O;obtain⟨D,F,rfl⟩:=Bh z;have p:=(A.block k Fr (fun e=>a4 e.symm)).trans (Bg t.blk (O7 g l));have Q:=Bb p 3;have f2:=Bk p 3;have l2:=Sp p;simp at Q;refine f.out _ _ trivial (fun m=>?_);clear f K
   try simp only[QX]
   refine tq 8 (.q k 0) m ?_;refine tq 9 (.q k 3) m ?_;refine tr 10 fun K f=>?_;go_simp;refine f.out _ _ trivial (fun m=>?_);clear f K
   try simp only[QX]
   refine Bsg Lt ?_ _;go_wp2;go_end0;exact⟨rfl,a6 _ _ _ z A O⟩
  go_simp;refine f.out _ _ trivial (fun m=>?_);clear f K
  try simp only[QX]
  refine tr 4 fun K f=>?_;go_simp;refine f.out _ _ trivial (fun m=>?_);clear f K
  try simp only[QX]
  refine tr 7 fun K f=>?_;refine Jr Ls _ _ _ Ls B 31 Z _ 2 16 Bsk hi a0 a1 a2 rfl Ck _ _ _ Ls ((a3.alloc (O7 g l)).drew.drew) ⟨w.heap.size+1,0,none⟩ 1 1 [.i g,.i l] Ls Ls a5 (by simp[Value.oneCell']) Pf Ck Fr ?_;intro I J z A O;obtain⟨D,F,rfl⟩:=Bh z;have p:=(A.block k Fr (fun e=>a4 e.symm)).trans (Bg t.blk (O7 g l));have Q:=Bb p 3;have f2:=Bk p 3;have l2:=Sp p;simp at Q;refine f.out _ _ trivial (fun m=>?_);clear f K
  try simp only[QX]
  refine tq 8 (.q k 0) m ?_;refine tq 9 (.q k 3) m ?_;refine tr 10 fun K f=>?_;go_simp;refine f.out _ _ trivial (fun m=>?_);clear f K
  try simp only[QX]
  refine Bsg Lt ?_ _;go_wp2;go_end0;exact⟨rfl,a6 _ _ _ z A O⟩
 -- END
def TyF (w:TW)(k:Nat)(v:FrV)(a:TA)(n cp:Nat)(l:TP):Prop:=TyR w (.slice a n cp) l/\∀g o,a=some ⟨g,o,none⟩->v.free k g
def TyF.bn{w s:TW}{k n t:Nat}{v f:FrV}{a:TA}{q:TP}(h:TyF w k v a n t q)(z:Bn k w v s f):TyF s k f a n t q:=by
 obtain⟨b|⟨g,o,c,A,i,m,b,B,C⟩,D⟩:=h
 ·refine⟨.inl b,fun g o e=>?_⟩;have:=b.1;simp only[Value.slice.injEq]at this;rw[this.1]at e;cases e
 simp only[Value.slice.injEq]at i;obtain⟨rfl,rfl,rfl⟩:=i;have F:=D g o rfl;obtain⟨p,G⟩:=z.blk g (Sp m) F;refine⟨.inr ⟨g,o,t,A,rfl,p.trans m,b,B,fun j x I=>?_⟩,fun J K e=>?_⟩
 ·rw[Brr (a:=⟨g,o+j,none⟩) p];exact C j x I
 simp only[Option.some.injEq,Addr.mk.injEq,Br8]at e;rw[<- e.1];exact G
def Zd(T:TI)(l:TP):∀(k:Nat) (b:Dv),(Fn T l k b).st.length<=b.st.length
 | 0,b=>Bru _
 | k+1,b=>by
  unfold Fn;refine Br5 (Zd T l k _) ?_;rw[(Bd8 _ _ _ _).2.1];unfold Bj
  split<;>simp
def Rj(w:TW)(B k:Nat)(c:BnC)(v:FrV)(b:Dv)(a:TA)(n cp:Nat)(l:TP)(h:Ea w B k c v b)(hl:TyF w k v a n cp l)(c1:l.length<=20000):Calls prog 271 #[.q k 0,.s a n cp] w fun e F=>e=.r (.tuple #[])/\∃L,Ea F B k c L (Ga c.T l b)/\Bn k w v F L:=by
 unfold Ga;generalize hR:Fn c.T l l.length b=R;have J:=Bc hR;clear hR;obtain⟨hn,-,-⟩:=hl.1.cap;subst hn;go_in;go_wp2
 go_loopw [4] (fun s wr=>∃(m:Nat) (L:FrV) (b':Dv),m<=l.length/\s=.i ((m:Int)-1)/\Hid (Fn c.T l m b'=R)/\Ea wr B k c L b'/\Bn k w v wr L)
  (fun s _=>(intOf s+1).toNat)
 case atStart=>exact⟨l.length,v,b,Bru _,Mg,J,h,Bn.refl _ _ _⟩
 case round=>
  clear J h;obtain⟨m,v1,V,hm,rfl,J,h,hG⟩:=hrel;cases m with
  | zero =>
   have HE:Hid (V=R):=Ba J;clear J;go_wp2;go_end0;obtain rfl:=Ba HE;exact⟨rfl,v1,h,hG⟩
  | succ m =>
   have D:=Ba J;rw[Fn]at D;have a2:=L8 wr B k c v1 V h;have a3:=hl.bn hG;have c2:=h.k_lt;have c3:=h.sl;have b6:(0:Int)<=((m+1:Nat):Int)-1:=Ck;have a4:((m+1:Nat):Int)-1=(m:Int):=Ck;rw[a4];generalize b7:(Bj V).1=t at *;obtain⟨f,j⟩:=t;generalize b8:(Bj V).2=I at *;have b9:=Bc a2;have a5:=Bc D;clear a2 D J b7 b8 b6 a4;go_wp2_with fail;refine Qm (Ba b9) ?_;rintro z ⟨v2,h2,a0⟩;have a6:=(a3.bn a0);obtain⟨g,o,rfl,a7,a8⟩:=a6.1.at Ck;obtain⟨y0,y1⟩:=a8 m Ck;have hx:l.getD m (0,0)=l[m]:=by simp[Vm,show m<l.length by omega]
   have D:=Ba a5;rw[hx]at D;generalize l[m]=x at *;obtain⟨N,O⟩:=x;simp only at y0 y1;have K:=h2.alloc (O7 f j);have a9:=(hG.trans a0).alloc (O7 f j);have Y:=Be z (O7 f j);have p0:(z.alloc (O7 f j)).C z.heap.size 0 (.i f):=(Bb Y 0).trans rfl;have p1:(z.alloc (O7 f j)).C z.heap.size 1 (.i j):=(Bb Y 1).trans rfl;have Z:=Bb K.blk 0;have k1:=Bb K.blk 1;have lT:=Sp Y;have lK:=K.k_lt;simp at Z k1;have z0:=(Bsu z (O7 f j) ⟨g,o+m*2,none⟩ a7).trans y0;have z1:=(Bsu z (O7 f j) ⟨g,o+m*2+1,none⟩ a7).trans y1;have lg:g<(z.alloc (O7 f j)).heap.size:=Fr;have b0:=Bam (ya:=c.ya) (yn:=c.yn) (yc:=c.yc) c.T c.tg c.tc f j N O (z.alloc (O7 f j)).drew K.tl K.drew.tr;have b3:Tp c.T (f,j) (N,O) I=if Tr.fitsB c.T f j N O=true then I else ⟨I.lo,I.st,true⟩:=rfl
   rw[b3]at D;generalize Tr.fitsB c.T f j N O=A at *;have b4:=Bc b0;have kb:(m:Int)<(l.length:Int):=Ck;have c4:(0:Int)<=(m:Int):=Ck;clear a8 hx a3 a5 b0 b3 y0 y1 a6 a0 h2;go_wp2
   go_region_held3 (fun F=>F.C k 0 (.s (.p c.tg) c.T.length c.tc)/\F.C k 1 (.s c.ya c.yn c.yc)/\F.C z.heap.size 0 (.i f)/\F.C z.heap.size 1 (.i j)/\F.C g (o+m*2) (.i N)/\F.C g (o+m*2+1) (.i O))
    (first|exact⟨Z,k1,p0,p1,z0,z1⟩|exact⟨QC G lK Z,QC G lK k1,QC G lT p0,QC G lT p1,QC G lg z0,QC G lg z1⟩)
    (first|(go_at_call 118;refine(Ba b4).mono ?_;rintro e w7 ⟨rfl,G⟩))
   have Q:=K.drew.below G;have b5:=a9.drew.trans (Bn.of_below _ G);have c5:=Bb Q.blk 5;have f5:=Bk Q.blk 5;have c6:=Q.k_lt;simp at c5;clear G Z k1 p0 p1 z0 z1 lK lT lg Y K a9 b4;cases A with
   | true =>
    have a1:Hid (Fn c.T l m I=R):=by unfold Hid;rw[<- D];rfl
    clear D;go_wp2;go_roundw
    case rel=>exact⟨m,v2,I,Ck,Mg,a1,Q,b5⟩
    case measure=>simp[intOf]
   | false =>
    have a1:Hid (Fn c.T l m ⟨I.lo,I.st,true⟩=R):=by unfold Hid;rw[<- D];rfl
    clear D;have h8:=Q.brk;have c0:=b5.brk;go_wp2;go_roundw
    case rel=>exact⟨m,v2,_,Ck,Mg,a1,h8,c0⟩
    case measure=>simp[intOf]
def Bdq(w:TW)(B k:Nat)(c:BnC)(v:FrV)(b:Dv)(a:TA)(n F:Nat)(l:TP)(h:Ea w B k c v b)(G:TyF w k v a n F l)(a4:b.st.length+l.length<=4000):Calls prog 273 #[.q k 0,.s a n F] w fun e I=>e=.r (.tuple #[])/\∃j,Ea I B k c j (Gi c.hi l b)/\Bn k w v I j:=by
 generalize J:Gi c.hi l b=R;have f:Hid (Gi c.hi (l.drop 0) b=R):=J;clear J;obtain⟨Y,-,-⟩:=G.1.cap;subst Y;go_in;go_wp2
 go_loopw [8] (fun s wr=>∃(m:Nat) (j:FrV) (A:Dv),m<=l.length/\s=.i (m:Int)/\A.st.length<=b.st.length+m/\Hid (Gi c.hi (l.drop m) A=R)/\Ea wr B k c j A/\Bn k w v wr j)
  (fun s _=>l.length-(intOf s).toNat)
 case atStart=>exact⟨0,v,b,Ck,rfl,Ck,f,h,Bn.refl _ _ _⟩
 case round=>
  clear f h;obtain⟨m,K,z,hm,rfl,a5,f,h,C⟩:=hrel;by_cases L:m<l.length
  ·have Z:=G.bn C;obtain⟨g,o,rfl,a6,N⟩:=Z.1.at Ck;obtain⟨y0,y1⟩:=N m L;have O:l.drop m=l[m]::l.drop (m+1):=Brj L;have D:=Ba f;rw[O,Gi]at D;generalize l[m]=x at *;obtain⟨p,t⟩:=x;simp only at y0 y1;have h2:=h.alloc (O7 p t);have a0:=C.alloc (O7 p t);have Q:=Nd _ B k c K z p t h2 Ck;have a7:(Ed c.hi (p,t) z).st.length<=b.st.length+(m+1):=by unfold Ed;split<;>simp<;>omega
   generalize Ed c.hi (p,t) z=V at *;have a1:=Bc Q;have a2:Hid (Gi c.hi (l.drop (m+1)) V=R):=D;have kb:(m:Int)<(l.length:Int):=Ck;clear Q D f O N;go_wp2_with fail;refine Qm (Ba a1) ?_;rintro w1 ⟨v2,h3,a3⟩;go_wp2;go_roundw
   case rel=>exact⟨m+1,v2,V,Ck,Mg,Ck,a2,h3,a0.trans a3⟩
   case measure=>simp[intOf];omega
  have HE:Hid (z=R):=by unfold Hid;rw[<- Ba f,Brq Ck,Gi]
  have kb:¬(m:Int)<(l.length:Int):=Ck;clear f;go_wp2;go_end0;obtain rfl:=Ba HE;exact⟨rfl,K,h,C⟩
def Bm2(w:TW)(B k:Nat)(c:BnC)(v:FrV)(b:Dv)(n:Nat)(h:Ea w B k c v b)(N:b.st.length<5000):Calls prog 263 #[.q k 0,.i (n:Int)] w fun e F=>e=.r (.tuple #[])/\∃G,Ea F B k c G (Va c.hi (n:Int) b)/\Bn k w v F G:=by
 have j:=fun O Q=>Nd w B k c v b O Q h N;have l:=h.blk;have a4:=h.k_lt;have z:=h.lo;obtain⟨la,ln,lc,sa,sn,sc⟩:=v;obtain⟨f,V,Y⟩:=b;obtain⟨xa,xc,I⟩:=Bh h.lo;simp only[Value.slice.injEq]at I;obtain⟨rfl,Z,rfl⟩:=I;subst Z;have c2:=Bb l 2;have c5:=Bb l 5;have f5:=Bk l 5;simp at c2 c5;unfold Va;simp only;rw[Pk Ck,Brx];have a5:¬(n:Int)<0:=Ck;have a0:=h.ll;simp only at a0 z;by_cases s:(f.length:Int)<=(n:Int);·rw[Th s];clear j l z;go_in;go_wp2;refine tb (.tuple #[]) (by simp[results,results263,go_sem]) ?_;exact⟨rfl,_,h.brk,(Bn.refl _ _ _).brk⟩
 rw[Pk s];have J:n<f.length:=Ck;have a6:(n:Int)<(f.length:Int):=Ck;obtain⟨g,hg,a7,_,t⟩:=Cf z Ck;obtain⟨A,C,K⟩:=Fu f n J;have y0:=(t (n*2) Ck).trans A;have y1:=(t (n*2+1) Ck).trans C;have D:f.getD n (0,0)=f[n]:=by simp[Vm,J]
 rw[D];generalize f[n]=x at *;obtain⟨p,L⟩:=x;simp only at y0 y1 ⊢;subst hg;by_cases m:p=0
 ·rw[Th m];have a1:(p==0)=true:=by simp[m]
  clear m j l t A C K D s;go_in;go_wp2;refine tb (.tuple #[]) (by simp[results,results263,go_sem]) ?_;exact⟨rfl,_,h.brk,(Bn.refl _ _ _).brk⟩
 rw[Pk m];have a1:(p==0)=false:=by simp[m]
 have j:=j p L;generalize Ed c.hi (p,L) ⟨f,V,Y⟩=b2 at *;have a2:=Bc j;clear m j l t A C K D s;go_in;go_wp2_with fail;refine Qm (Ba a2) ?_;rintro w1 ⟨v2,h3,a3⟩;go_wp2;go_end0;exact⟨rfl,v2,h3,a3⟩
def Ea.setLo{w:TW}{u k:Nat}{c:BnC}{v:FrV}{b:Dv}(h:Ea w u k c v b){g ln lc q:Nat}(z:v.lv=.s (.p g) ln lc)(I:q<b.lo.length)(f l:Int):Ea ((w.setCell (.a g (q*2)) (.i f)).setCell (.a g (q*2+1)) (.i l)) u k c v ⟨b.lo.set q (f,l),b.st,b.br⟩/\Bn k w v ((w.setCell (.a g (q*2)) (.i f)).setCell (.a g (q*2+1)) (.i l)) v:=by
 have t:v.lv.ownBlock=some g:=by rw[z];rfl
 have J:k≠g:=fun e=>h.nk.1 (e▸t);have K:v.sv.ownBlock≠some g:=h.ns g t;have C:u<=g:=(h.lo.lt g t).1;have A:∀j,j≠g->((w.setCell (.a g (q*2)) (.i f)).setCell (.a g (q*2+1)) (.i l)).heap[j]?=w.heap[j]?:=fun j m=>(Dg m).trans (Dg m);have D:=h.lo;rw[z]at D;obtain⟨O,F,-,-,-,-,-,-,L⟩:=Sm D I f l;simp only[Option.some.injEq,Addr.mk.injEq,Br8]at F;subst F;have N:Below u w ((w.setCell (.a g (q*2)) (.i f)).setCell (.a g (q*2+1)) (.i l)):=((Brm u w).setCell (by simpa using C) _).setCell (by simpa using C) _;refine⟨⟨(A k J).trans h.blk,by rw[z];exact L,Js h.st (fun j m=>A j (fun e=>K (e▸m))),h.nk,h.ns,h.hB,Mv h.tr h.tB N,h.tB,h.tl,by simpa using h.ll,h.sl⟩,?_⟩;exact⟨((Brm 0 w).setCell Hd _).setCell Hd _,fun j m G=>⟨A j (fun e=>G.2.1 (e▸t)),G⟩⟩
def Ea.setSt{w:TW}{u k:Nat}{c:BnC}{v:FrV}{b:Dv}(h:Ea w u k c v b){g O I q:Nat}(z:v.sv=.s (.p g) O I)(J:q<b.st.length)(f l:Int):Ea ((w.setCell (.a g (q*2)) (.i f)).setCell (.a g (q*2+1)) (.i l)) u k c v ⟨b.lo,b.st.set q (f,l),b.br⟩/\Bn k w v ((w.setCell (.a g (q*2)) (.i f)).setCell (.a g (q*2+1)) (.i l)) v:=by
 have t:v.sv.ownBlock=some g:=by rw[z];rfl
 have K:k≠g:=fun e=>h.nk.2 (e▸t);have L:v.lv.ownBlock≠some g:=fun e=>h.ns g e t;have C:u<=g:=(h.st.lt g t).1;have A:∀j,j≠g->((w.setCell (.a g (q*2)) (.i f)).setCell (.a g (q*2+1)) (.i l)).heap[j]?=w.heap[j]?:=fun j m=>(Dg m).trans (Dg m);have D:=h.st;rw[z]at D;obtain⟨V,F,-,-,-,-,-,-,N⟩:=Sm D J f l;simp only[Option.some.injEq,Addr.mk.injEq,Br8]at F;subst F;have Q:Below u w ((w.setCell (.a g (q*2)) (.i f)).setCell (.a g (q*2+1)) (.i l)):=((Brm u w).setCell (by simpa using C) _).setCell (by simpa using C) _;refine⟨⟨(A k K).trans h.blk,Js h.lo (fun j m=>A j (fun e=>L (e▸m))),by rw[z];exact N,h.nk,h.ns,h.hB,Mv h.tr h.tB Q,h.tB,h.tl,h.ll,by simpa using h.sl⟩,?_⟩;exact⟨((Brm 0 w).setCell Hd _).setCell Hd _,fun j m G=>⟨A j (fun e=>G.2.2 (e▸t)),G⟩⟩
def Cq.alloc'{w:TW}{u:Nat}{l:TX}{q:TP}(h:Cq w u l q)(o:Obj):Cq (w.alloc o) u l q:=Js h (fun j c=>Br2 _ _ _ (h.lt j c).2)
theorem Bi6(w:World)(B k:Nat)(c:BnC)(v:FrV)(b:Dv)(n:Nat)(h:Ea w B k c v b)(hn:n<=100000):Calls prog 264 #[.pointer (some ⟨k,0,none⟩),.int .i64 (n:Int)] w fun e w'=>e=.returned (.tuple #[])/\∃v',Ea w' B k c v' (To (n:Int) b)/\Bn k w v w' v':=by
 have hta:=L8 w B k c v b h;have hlo2:=Bfr b;unfold To;rw[Pk Ck,Brx];rw[<- hlo2];generalize Bj b=tb at *;obtain⟨⟨t1,t2⟩,b2⟩:=tb;simp only at hta ⊢;have HTA:=Bc hta;have hn0:¬(n:Int)<0:=Ck;clear hta hlo2 h;by_cases hlen:(b2.lo.length:Int)<=(n:Int);·rw[Th hlen];go_in;go_wp2_with fail;refine(Ba HTA).mono ?_;rintro e w1 ⟨rfl,v1,h1,hG1⟩;obtain⟨la,ln,lc,sa,sn,sc⟩:=v1;obtain⟨xa,xc,hsh⟩:=Bh h1.lo;simp only[Value.slice.injEq]at hsh;obtain⟨rfl,hn1,rfl⟩:=hsh;subst hn1;have h2:=h1.alloc (O7 t1 t2);have hG2:=hG1.alloc (O7 t1 t2);have c2:=Bb h1.blk 2;have c5:=Bb h1.blk 5;have f5:=Bk h1.blk 5;have lk:=h1.k_lt;have hll:=h1.ll;simp at c2 c5;go_wp2;refine tb (.tuple #[]) (by simp[results,results264,go_sem]) ?_;exact⟨rfl,_,h1.brk.alloc _,hG1.brk.alloc _⟩
 rw[Pk hlen];have hq:n<b2.lo.length:=Ck;have hqi:(n:Int)<(b2.lo.length:Int):=Ck;clear hlen;go_in;go_wp2_with fail;refine(Ba HTA).mono ?_;rintro e w1 ⟨rfl,v1,h1,hG1⟩;obtain⟨la,ln,lc,sa,sn,sc⟩:=v1;obtain⟨xa,xc,hsh⟩:=Bh h1.lo;simp only[Value.slice.injEq]at hsh;obtain⟨rfl,hn1,rfl⟩:=hsh;subst hn1;have h2:=h1.alloc (O7 t1 t2);have hG2:=hG1.alloc (O7 t1 t2);have c2:=Bb h1.blk 2;have c5:=Bb h1.blk 5;have f5:=Bk h1.blk 5;have lk:=h1.k_lt;have hll:=h1.ll;simp at c2 c5;obtain⟨g,hg,hglt,_,y0,y1,z0,z1,-⟩:=Sm h1.lo hq t1 t2;subst hg;have hS:=h1.setLo (g:=g) (ln:=b2.lo.length) (lc:=lc) (q:=n) rfl hq t1 t2;have hSA:=hS.1.alloc (O7 t1 t2);have hsz:((w1.setCell ⟨g,n*2,none⟩ (.int .i64 t1)).setCell ⟨g,n*2+1,none⟩ (.int .i64 t2)).heap.size=w1.heap.size:=by simp[World.setCell]
 have TS:=Be ((w1.setCell ⟨g,n*2,none⟩ (.int .i64 t1)).setCell ⟨g,n*2+1,none⟩ (.int .i64 t2)) (O7 t1 t2);rw[hsz]at TS;have s0:(((w1.setCell ⟨g,n*2,none⟩ (.int .i64 t1)).setCell ⟨g,n*2+1,none⟩ (.int .i64 t2)).alloc (O7 t1 t2)).cell? ⟨w1.heap.size,0,none⟩=some (.int .i64 t1):=(Bb TS 0).trans rfl;have s1:(((w1.setCell ⟨g,n*2,none⟩ (.int .i64 t1)).setCell ⟨g,n*2+1,none⟩ (.int .i64 t2)).alloc (O7 t1 t2)).cell? ⟨w1.heap.size,1,none⟩=some (.int .i64 t2):=(Bb TS 1).trans rfl;have s2:(((w1.setCell ⟨g,n*2,none⟩ (.int .i64 t1)).setCell ⟨g,n*2+1,none⟩ (.int .i64 t2)).alloc (O7 t1 t2)).cell? ⟨k,2,none⟩=some (.slice (some ⟨g,0,none⟩) b2.lo.length lc):=(Bb hSA.blk 2).trans rfl;clear hsz TS;have hgk:g≠k:=fun e=>h1.nk.1 (by rw[e];rfl);have hg1:g<w1.heap.size:=(h1.lo.lt g rfl).2;have TA:=Be w1 (O7 t1 t2);have p0:(w1.alloc (O7 t1 t2)).cell? ⟨w1.heap.size,0,none⟩=some (.int .i64 t1):=(Bb TA 0).trans rfl;have p1:(w1.alloc (O7 t1 t2)).cell? ⟨w1.heap.size,1,none⟩=some (.int .i64 t2):=(Bb TA 1).trans rfl;have d2:(w1.alloc (O7 t1 t2)).cell? ⟨k,2,none⟩=some (.slice (some ⟨g,0,none⟩) b2.lo.length lc):=(Bb h2.blk 2).trans rfl;go_wp2
 go_region_held3 (fun w'=>w'.cell? ⟨k,2,none⟩=some (.slice (some ⟨g,0,none⟩) b2.lo.length lc)/\w'.cell? ⟨w1.heap.size,0,none⟩=some (.int .i64 t1)/\w'.cell? ⟨w1.heap.size,1,none⟩=some (.int .i64 t2))
  (first|exact⟨d2,p0,p1⟩|exact⟨s2,s0,s1⟩)
  (fail)
 go_wp2;go_end0;exact⟨rfl,_,hSA.drew,(((hG1.trans hS.2).alloc _).drew)⟩
def Hn (a b:Int × Int)(l:TP)(m:Nat):List (Int × Int):=Ci a b (l.take m)++l.drop m
def Bay(a b:Int×Int)(l:TP):Hn a b l 0=l:=by simp[Hn,Ci]
def Bc5(a b:Int×Int)(l:TP):Hn a b l l.length=Ci a b l:=by simp[Hn]
def Ys(a b:Int×Int)(l:TP)(m:Nat):(Hn a b l m).length=l.length:=by
 simp only[Hn,Ws,Jl,Btr,Bv9];omega
def Yt(a b:Int×Int)(l:TP)(m:Nat)(c:m<l.length)(h:m<(Hn a b l m).length):(Hn a b l m)[m]=l[m]:=by
 have e:(Ci a b (l.take m)).length=m:=by rw[Jl];simp;omega
 simp only[Hn];rw[Bv6 Ck];simp[e]
def Wm(a b:Int×Int)(l:TP)(m:Nat)(c:m<l.length):Hn a b l (m+1)=(Hn a b l m).set m (if l[m]=a then b else l[m]):=by
 have e:(Ci a b (l.take m)).length=m:=by rw[Jl];simp;omega
 simp only[Hn];rw[Xi a b l m c,Bs9 _ _ Ck,e,Bus,Bsi,Brj c];rfl
def Baz(a b:Int×Int)(l:TP)(m:Nat)(c:m<l.length)(h:l[m]≠a):Hn a b l (m+1)=Hn a b l m:=by
 rw[Wm a b l m c,Pk h];have e:m<(Hn a b l m).length:=by rw[Ys];exact c
 conv=>lhs;arg 3;rw[<- Yt a b l m c e]
 exact List.set_getElem_self e
def Aj(w:TW)(B k:Nat)(c:BnC)(v:FrV)(b:Dv)(F G f j:Int)(h:Ea w B k c v b):Calls prog 267 #[.q k 0,.agg #[.i F,.i G],.agg #[.i f,.i j]] w fun e N=>e=.r (.tuple #[])/\∃v',Ea N B k c v' (K5 (F,G) (f,j) b)/\Bn k w v N v':=by
 obtain⟨A,D,br⟩:=b;unfold K5;simp only;obtain⟨la,ln,O,sa,sn,Q⟩:=v;obtain⟨xa,xc,b0⟩:=Bh h.lo;simp only[Value.slice.injEq]at b0;obtain⟨rfl,b2,rfl⟩:=b0;subst b2;obtain⟨xa,xc,b0⟩:=Bh h.st;simp only[Value.slice.injEq]at b0;obtain⟨rfl,b2,rfl⟩:=b0;subst b2;have h0:=(h.alloc (O7 F G)).alloc (O7 f j);have G0:=((Bn.refl k w ⟨la,A.length,O,sa,D.length,Q⟩).alloc (O7 F G)).alloc (O7 f j);have O0:=Cb w (O7 F G) (O7 f j);have N0:=Bx w (O7 F G) (O7 f j);have b5:=h.ll;have b6:=h.sl;have c5:=h.k_lt;have b7:∀g,la=some ⟨g,0,none⟩->g<w.heap.size:=fun g e=>(h.lo.lt g (by subst e;rfl)).2;have b8:∀g,sa=some ⟨g,0,none⟩->g<w.heap.size:=fun g e=>(h.st.lt g (by subst e;rfl)).2;have c2:=Bb h0.blk 2;simp at c2;simp only at b5 b6;go_in;go_wp2
 go_loopw [15] (fun s wr=>∃m:Nat,m<=A.length/\s=.i (m:Int)/\Ea wr B k c ⟨la,A.length,O,sa,D.length,Q⟩ ⟨Hn (F,G) (f,j) A m,D,br⟩/\Bn k w ⟨la,A.length,O,sa,D.length,Q⟩ wr ⟨la,A.length,O,sa,D.length,Q⟩/\wr.heap[w.heap.size]?=some (O7 F G)/\wr.heap[w.heap.size+1]?=some (O7 f j))
  (fun s _=>A.length-(intOf s).toNat)
 case atStart=>exact⟨0,Ck,rfl,by rw[Bay];exact h0,G0,O0,N0⟩
 case round=>
  clear h0 G0 O0 N0 c2;obtain⟨m,hm,rfl,z,V,J,I⟩:=hrel;have lO:=Sp J;have lN:=Sp I;by_cases Y:m<A.length
  ·have a5:m<(Hn (F,G) (f,j) A m).length:=by rw[Ys];exact Y
   have Z:=Yt (F,G) (f,j) A m Y a5;have K:=Wm (F,G) (f,j) A m Y;have L:=Baz (F,G) (f,j) A m Y;obtain⟨g,hg,b9,c0,y0,y1,z0,z1,-⟩:=Sm z.lo a5 f j;subst hg;have c1:=b7 g rfl;rw[Z]at y0 y1;generalize A[m]=x at *;obtain⟨l,t⟩:=x;simp only at y0 y1;have d2:=Bb z.blk 2;have lK:=z.k_lt;obtain⟨o0,o1⟩:=cl2 J;obtain⟨q0,q1⟩:=cl2 I;simp at d2 o0 o1 q0 q1;have kb:(m:Int)<(A.length:Int):=Ck;by_cases a3:l=F
   ·subst a3;by_cases a4:t=G
    ·subst a4;rw[Th rfl]at K;have hS:=z.setLo (g:=g) (q:=m) rfl a5 f j;rw[<- K]at hS;have b1:=hS.1.alloc (O7 l t);have b3:((wr.setCell (.a g (m*2)) (.i f)).setCell (.a g (m*2+1)) (.i j)).heap.size=wr.heap.size:=by simp[World.setCell]
     have b4:((wr.setCell (.a g (m*2)) (.i f)).setCell (.a g (m*2+1)) (.i j)).heap[w.heap.size]?=_:=((Dg Ck).trans (Dg Ck)).trans J;have a6:((wr.setCell (.a g (m*2)) (.i f)).setCell (.a g (m*2+1)) (.i j)).heap[w.heap.size+1]?=_:=((Dg Ck).trans (Dg Ck)).trans I;have a0:(wr.alloc (O7 l t)).C (w.heap.size+1) 0 (.i f):=(Bb (Bg I (O7 l t)) 0).trans rfl;have a1:(wr.alloc (O7 l t)).C (w.heap.size+1) 1 (.i j):=(Bb (Bg I (O7 l t)) 1).trans rfl;have a2:(wr.alloc (O7 l t)).C k 2 (.s (.p g) A.length O):=(Bb (z.alloc (O7 l t)).blk 2).trans rfl;have s0:(((wr.setCell (.a g (m*2)) (.i f)).setCell (.a g (m*2+1)) (.i j)).alloc (O7 l t)).C (w.heap.size+1) 0 (.i f):=(Bb (Bg a6 (O7 l t)) 0).trans rfl;have s1:(((wr.setCell (.a g (m*2)) (.i f)).setCell (.a g (m*2+1)) (.i j)).alloc (O7 l t)).C (w.heap.size+1) 1 (.i j):=(Bb (Bg a6 (O7 l t)) 1).trans rfl;have s2:(((wr.setCell (.a g (m*2)) (.i f)).setCell (.a g (m*2+1)) (.i j)).alloc (O7 l t)).C k 2 (.s (.p g) A.length O):=(Bb b1.blk 2).trans rfl;clear K L Z b3;go_wp2
     go_region_held3 (fun N=>N.C k 2 (.s (.p g) A.length O)/\N.C (w.heap.size+1) 0 (.i f)/\N.C (w.heap.size+1) 1 (.i j)) (first|exact⟨a2,a0,a1⟩|exact⟨s2,s0,s1⟩) (fail)
     go_wp2;go_roundw
     case rel=>exact⟨m+1,Ck,Mg,b1.drew,(((V.trans hS.2).alloc _).drew),Bg b4 _,Bg a6 _⟩
     case measure=>simp[intOf];omega
    have c3:(t==G)=false:=by simp[a4]
    rw[<- L (by simp;exact a4)]at z;have a7:=z.alloc (O7 l t);have a8:=Bg J (O7 l t);have a9:=Bg I (O7 l t);clear K L Z a4;go_wp2;go_roundw
    case rel=>exact⟨m+1,Ck,Mg,a7,V.alloc _,a8,a9⟩
    case measure=>simp[intOf];omega
   have c4:(l==F)=false:=by simp[a3]
   rw[<- L (by simp;intro e;exact absurd e a3)]at z;have a7:=z.alloc (O7 l t);have a8:=Bg J (O7 l t);have a9:=Bg I (O7 l t);clear K L Z a3;go_wp2;go_roundw
   case rel=>exact⟨m+1,Ck,Mg,a7,V.alloc _,a8,a9⟩
   case measure=>simp[intOf];omega
  obtain rfl:m=A.length:=Ck;rw[Bc5]at z;have kb:¬(A.length:Int)<(A.length:Int):=Ck;have c2:=Bb z.blk 3;simp at c2;have h0:=z;have G0:=V;have O0:=J;have N0:=I;clear z V J I lO lN;go_wp2
  go_loopw [36] (fun s wr=>∃m:Nat,m<=D.length/\s=.i (m:Int)/\Ea wr B k c ⟨la,A.length,O,sa,D.length,Q⟩ ⟨Ci (F,G) (f,j) A,Hn (F,G) (f,j) D m,br⟩/\Bn k w ⟨la,A.length,O,sa,D.length,Q⟩ wr ⟨la,A.length,O,sa,D.length,Q⟩/\wr.heap[w.heap.size]?=some (O7 F G)/\wr.heap[w.heap.size+1]?=some (O7 f j))
   (fun s _=>D.length-(intOf s).toNat)
  case atStart=>exact⟨0,Ck,rfl,by rw[Bay];exact h0,G0,O0,N0⟩
  case round=>
   clear h0 G0 O0 N0 c2;obtain⟨m,hm,rfl,z,V,J,I⟩:=hrel;have lO:=Sp J;have lN:=Sp I;by_cases Y:m<D.length
   ·have a5:m<(Hn (F,G) (f,j) D m).length:=by rw[Ys];exact Y
    have Z:=Yt (F,G) (f,j) D m Y a5;have K:=Wm (F,G) (f,j) D m Y;have L:=Baz (F,G) (f,j) D m Y;obtain⟨g,hg,b9,c0,y0,y1,z0,z1,-⟩:=Sm z.st a5 f j;subst hg;have c1:=b8 g rfl;rw[Z]at y0 y1;generalize D[m]=x at *;obtain⟨l,t⟩:=x;simp only at y0 y1;have d2:=Bb z.blk 3;have lK:=z.k_lt;obtain⟨o0,o1⟩:=cl2 J;obtain⟨q0,q1⟩:=cl2 I;simp at d2 o0 o1 q0 q1;have kb:(m:Int)<(D.length:Int):=Ck;by_cases a3:l=F
    ·subst a3;by_cases a4:t=G
     ·subst a4;rw[Th rfl]at K;have hS:=z.setSt (g:=g) (q:=m) rfl a5 f j;rw[<- K]at hS;have b1:=hS.1.alloc (O7 l t);have b3:((wr.setCell (.a g (m*2)) (.i f)).setCell (.a g (m*2+1)) (.i j)).heap.size=wr.heap.size:=by simp[World.setCell]
      have b4:((wr.setCell (.a g (m*2)) (.i f)).setCell (.a g (m*2+1)) (.i j)).heap[w.heap.size]?=_:=((Dg Ck).trans (Dg Ck)).trans J;have a6:((wr.setCell (.a g (m*2)) (.i f)).setCell (.a g (m*2+1)) (.i j)).heap[w.heap.size+1]?=_:=((Dg Ck).trans (Dg Ck)).trans I;have a0:(wr.alloc (O7 l t)).C (w.heap.size+1) 0 (.i f):=(Bb (Bg I (O7 l t)) 0).trans rfl;have a1:(wr.alloc (O7 l t)).C (w.heap.size+1) 1 (.i j):=(Bb (Bg I (O7 l t)) 1).trans rfl;have a2:(wr.alloc (O7 l t)).C k 3 (.s (.p g) D.length Q):=(Bb (z.alloc (O7 l t)).blk 3).trans rfl;have s0:(((wr.setCell (.a g (m*2)) (.i f)).setCell (.a g (m*2+1)) (.i j)).alloc (O7 l t)).C (w.heap.size+1) 0 (.i f):=(Bb (Bg a6 (O7 l t)) 0).trans rfl;have s1:(((wr.setCell (.a g (m*2)) (.i f)).setCell (.a g (m*2+1)) (.i j)).alloc (O7 l t)).C (w.heap.size+1) 1 (.i j):=(Bb (Bg a6 (O7 l t)) 1).trans rfl;have s2:(((wr.setCell (.a g (m*2)) (.i f)).setCell (.a g (m*2+1)) (.i j)).alloc (O7 l t)).C k 3 (.s (.p g) D.length Q):=(Bb b1.blk 3).trans rfl;clear K L Z b3;go_wp2
      go_region_held3 (fun N=>N.C k 3 (.s (.p g) D.length Q)/\N.C (w.heap.size+1) 0 (.i f)/\N.C (w.heap.size+1) 1 (.i j)) (first|exact⟨a2,a0,a1⟩|exact⟨s2,s0,s1⟩) (fail)
      go_wp2;go_roundw
      case rel=>exact⟨m+1,Ck,Mg,b1.drew,(((V.trans hS.2).alloc _).drew),Bg b4 _,Bg a6 _⟩
      case measure=>simp[intOf];omega
     have c3:(t==G)=false:=by simp[a4]
     rw[<- L (by simp;exact a4)]at z;have a7:=z.alloc (O7 l t);have a8:=Bg J (O7 l t);have a9:=Bg I (O7 l t);clear K L Z a4;go_wp2;go_roundw
     case rel=>exact⟨m+1,Ck,Mg,a7,V.alloc _,a8,a9⟩
     case measure=>simp[intOf];omega
    have c4:(l==F)=false:=by simp[a3]
    rw[<- L (by simp;intro e;exact absurd e a3)]at z;have a7:=z.alloc (O7 l t);have a8:=Bg J (O7 l t);have a9:=Bg I (O7 l t);clear K L Z a3;go_wp2;go_roundw
    case rel=>exact⟨m+1,Ck,Mg,a7,V.alloc _,a8,a9⟩
    case measure=>simp[intOf];omega
   obtain rfl:m=D.length:=Ck;rw[Bc5]at z;have kb:¬(D.length:Int)<(D.length:Int):=Ck;clear lO lN;go_wp2;go_end0;exact⟨rfl,_,z,V⟩
def Ky(w:TW)(B k:Nat)(c:BnC)(v:FrV)(b:Dv)(h:Ea w B k c v b):Calls prog 274 #[.q k 0] w fun e p=>∃u:FrV,e=.r (.tuple #[u.val,.bool (Ew b).isSome])/\(∀y,Ew b=some y->u=v/\y=⟨b.lo,b.st⟩)/\Ea p B k c v b/\Bn k w v p v:=by
 have L:=h.k_lt;have N:=h.B_le;have O:=h.new (Bru _);have z:=Bb h.blk 2;have A:=Bb h.blk 3;have D:=Bb h.blk 5;simp at z A D;obtain⟨Q,V,F⟩:=b;obtain⟨f,g,i,j,l,m⟩:=v;simp only at z A D;have Y:=Be w (O23 none 0 0 none 0 0);cases F with
 | true =>
  rw[Uw rfl];go_in;go_wp2;refine tb (.tuple #[.agg #[.s none 0 0,.s none 0 0],.bool false]) (by simp[results,results274,go_sem]) ?_;exact⟨⟨none,0,0,none,0,0⟩,rfl,fun y t=>by simp at t,h.alloc _,(Bn.refl _ _ _).alloc _⟩
 | false =>
  rw[Bqa rfl];have G:(w.alloc (O23 none 0 0 none 0 0)).C k 2 (.s f g i):=(Bb (h.alloc (O23 none 0 0 none 0 0)).blk 2).trans rfl;have I:(w.alloc (O23 none 0 0 none 0 0)).C k 3 (.s j l m):=(Bb (h.alloc (O23 none 0 0 none 0 0)).blk 3).trans rfl;have J:(w.alloc (O23 f g i j l m)).C k 2 (.s f g i):=(Bb (h.alloc (O23 f g i j l m)).blk 2).trans rfl;have K:(w.alloc (O23 f g i j l m)).C k 3 (.s j l m):=(Bb (h.alloc (O23 f g i j l m)).blk 3).trans rfl;go_in;go_wp2
  go_region_held3 (fun p=>p.C k 2 (.s f g i)/\p.C k 3 (.s j l m)) (first|exact⟨G,I⟩|exact⟨J,K⟩) (fail)
  go_wp2;refine tb (.tuple #[.agg #[.s f g i,.s j l m],.bool true]) (by simp[results,results274,go_sem]) ?_;exact⟨⟨f,g,i,j,l,m⟩,rfl,fun y t=>⟨rfl,(Option.some.inj t).symm⟩,(h.alloc _).drew,((Bn.refl _ _ _).alloc _).drew⟩
def Ag(l:TP)(a:TA)(n c:Nat)(w:TW)(p:l.length<=10000)(h:TyR w (.s a n c) l):Calls prog 289 #[.s a n c] w fun e f=>∃b vc,e=.r (.s b l.length vc)/\Cq f w.heap.size (.s b l.length vc) l/\Bl w f:=by
 go_in;go_wp2_with (at_builtin;refine Jo rfl _ _ rfl w.heap.size _ [] l a n c rfl (Brw _ _ _ _) rfl h Fr (Bru _) ?_)
 intro q t g i;obtain⟨b,vc,rfl⟩:=Bh g;go_wp2;go_ret;exact⟨b,vc,rfl,g,(Brm _ _).grown i (Bru _) (fun j m=>by cases m)⟩
theorem Bod{w:World}{u b:Nat}{g c e f:Option Addr}{t O h i l m p q:Nat}{j z:TypeId}(s:w.heap[u]?=some (.cells #[.slice g t O,.slice c h i] j (0,0)))(v:w.heap[b]?=some (.cells #[.slice e l m,.slice f p q] z (0,0))):w.cell? ⟨u,0,none⟩=some (.slice g t O)/\w.cell? ⟨u,1,none⟩=some (.slice c h i)/\w.cell? ⟨b,0,none⟩=some (.slice e l m)/\w.cell? ⟨b,1,none⟩=some (.slice f p q):=by
 refine⟨?_,?_,?_,?_⟩
 ·rw[Bb s];rfl
 ·rw[Bb s];rfl
 ·rw[Bb v];rfl
 rw[Bb v];rfl
def Sy{u b t n:Nat}{j:TypeId}{l:TX}{e:TV}{w:TW}(h:w.ownsRow u j t l n e)(i:b<=u):w.ownsRow b j t l n e:=by
 obtain⟨f,m|⟨g,p,q,a,c,d,r⟩⟩:=h
 ·exact⟨f,.inl m⟩
 exact⟨f,.inr ⟨g,p,q,a,Br5 i c,d,r⟩⟩
def Beh(c:BnC)(v:FrV)(x:Bf)(w:TW)(D:v.is x w):Calls prog 262 #[.agg #[.s (.p c.tg) c.T.length c.tc,.s c.ya c.yn c.yc],v.val,.i c.hi] w fun e b=>∃u:FrV, e=.r (.agg #[.s (.p c.tg) c.T.length c.tc,.s c.ya c.yn c.yc,.s u.la u.ln u.lc,.s u.sa u.sn u.sc,.i c.hi,.bool false])/\Cq b w.heap.size u.lv x.locals/\Cq b w.heap.size u.sv x.stack/\(∀j,u.lv.ownBlock=some j->u.sv.ownBlock≠some j)/\Bl w b:=by
 have a0:=fun b (h:Bl w b)=>Ag x.locals v.la v.ln v.lc b (by have:=D.hl;omega) (D.lo.below h);have a1:=fun b (h:Bl w b)=>Ag x.stack v.sa v.sn v.sc b (by have:=D.hs;omega) (D.st.below h);obtain⟨m,q,t,z,A,B⟩:=v;simp only[FrV.val]at a0 a1 ⊢;have b2:=Bc a0;have b3:=Bc a1;clear a0 a1 D;have I:=Em w (O2 (.p c.tg) c.T.length c.tc c.ya c.yn c.yc) (O23 m q t z A B) (O22 none 0 0 none 0 0 none 0 0 none 0 0 0 false);obtain⟨J,K,Z0⟩:=Nz w (O2 (.p c.tg) c.T.length c.tc c.ya c.yn c.yc) (O23 m q t z A B) (O22 none 0 0 none 0 0 none 0 0 none 0 0 0 false);have t0:(((w.alloc (O2 (.p c.tg) c.T.length c.tc c.ya c.yn c.yc)).alloc (O23 m q t z A B)).alloc (O22 none 0 0 none 0 0 none 0 0 none 0 0 0 false)).C w.heap.size 0 (.s (.p c.tg) c.T.length c.tc):=(Bb J 0).trans rfl;have t1:(((w.alloc (O2 (.p c.tg) c.T.length c.tc c.ya c.yn c.yc)).alloc (O23 m q t z A B)).alloc (O22 none 0 0 none 0 0 none 0 0 none 0 0 0 false)).C w.heap.size 1 (.s c.ya c.yn c.yc):=(Bb J 1).trans rfl;have x0:(((w.alloc (O2 (.p c.tg) c.T.length c.tc c.ya c.yn c.yc)).alloc (O23 m q t z A B)).alloc (O22 none 0 0 none 0 0 none 0 0 none 0 0 0 false)).C (w.heap.size+1) 0 (.s m q t):=(Bb K 0).trans rfl;have x1:(((w.alloc (O2 (.p c.tg) c.T.length c.tc c.ya c.yn c.yc)).alloc (O23 m q t z A B)).alloc (O22 none 0 0 none 0 0 none 0 0 none 0 0 0 false)).C (w.heap.size+1) 1 (.s z A B):=(Bb K 1).trans rfl;have lT:=Sp J;have lX:=Sp K;go_in;go_wp2
 go_region_held3 (fun b=>b.C w.heap.size 0 (.s (.p c.tg) c.T.length c.tc)/\b.C w.heap.size 1 (.s c.ya c.yn c.yc)/\b.C (w.heap.size+1) 0 (.s m q t)/\b.C (w.heap.size+1) 1 (.s z A B))
  (exact Bod (by repeat (first|(with_reducible refine(Dg Ck).trans ?_)|(with_reducible refine stay L ?_)|(with_reducible refine stay F ?_)|exact J)) (by repeat (first|(with_reducible refine(Dg Ck).trans ?_)|(with_reducible refine stay L ?_)|(with_reducible refine stay F ?_)|exact K)))
  (first|(go_at_call 289;refine(Ba b2 _ (by first|exact I.drew|exact a2)).mono ?_;rintro e w5 ⟨a3,a4,rfl,a9,L⟩;have a5:Bl w w5:=(fun G=>Below.trans G (L.mono (Below.size G))) (by first|exact I.drew|exact a2);have f:=stay L (by first|exact Z0|exact g);have N:=Bb f 0;have q0:=Bk f 0;have O:=Bb f 1;have q1:=Bk f 1;have Q:=Bb f 2;have q2:=Bk f 2;have V:=Bb f 3;have q3:=Bk f 3;have Y:=Bb f 4;have q4:=Bk f 4;have Z:=Bb f 5;have q5:=Bk f 5;simp at N O Q V Y Z)|(go_at_call 289;refine(Ba b3 _ (by first|exact I.drew|exact a5)).mono ?_;rintro e w6 ⟨a6,a7,rfl,b0,F⟩;have a2:Bl w w6:=(fun G=>Below.trans G (F.mono (Below.size G))) (by first|exact I.drew|exact a5);have g:=stay F (by first|exact Z0|exact f);have N:=Bb g 0;have q0:=Bk g 0;have O:=Bb g 1;have q1:=Bk g 1;have Q:=Bb g 2;have q2:=Bk g 2;have V:=Bb g 3;have q3:=Bk g 3;have Y:=Bb g 4;have q4:=Bk g 4;have Z:=Bb g 5;have q5:=Bk g 5;simp at N O Q V Y Z))
 have a8:∀j,(Value.slice a3 x.locals.length a4).ownBlock=some j->w.heap.size+3<=j/\j<w5.heap.size:=fun j l=>by
  have:=a9.lt j l;simp at this;omega
 have b1:∀j,(Value.slice a6 x.stack.length a7).ownBlock=some j->w5.heap.size<=j:=fun j l=>(b0.lt j l).1;have b4:=a5.size;have lZ:=Sp f;have lr:=Sp g;go_wp2_with fail;refine tb (.agg #[.s (.p c.tg) c.T.length c.tc,.s c.ya c.yn c.yc,.s a3 x.locals.length a4,.s a6 x.stack.length a7,.i c.hi,.bool false]) (by simp[results,results262,go_sem,N,O,Q,V,Y,Z]) ?_;refine⟨⟨a3,x.locals.length,a4,a6,x.stack.length,a7⟩,rfl,?_,?_,fun j l b5=>?_,?_⟩
 ·refine Js (Sy (Js a9 (fun j l=>F.block j (a8 j l).2)) Fr) (fun j l=>?_);have:=a8 j l
  repeat (with_reducible refine(Dg Ck).trans ?_)
  rfl
 ·refine Js (Sy b0 b4) (fun j l=>?_);have:=b1 j l
  repeat (with_reducible refine(Dg Ck).trans ?_)
  rfl
 ·have:=a8 j l;have:=b1 j b5;omega
 repeat (with_reducible refine Bry ?_ Fr _)
 exact a2
def Sh(w:TW):Calls prog 291 #[] w fun e b=>e=.r (.agg #[.i 1,.i 0])/\Bl w b:=by
 go_in;go_wp2;refine tb (.agg #[.i 1,.i 0]) (by simp[results,results291,go_sem]) ?_;exact⟨rfl,by repeat (first|refine Bry ?_ Hd _|refine Bs4 ?_ Hd _|exact Brm _ _)⟩
def Bjm(w:TW):Calls prog 295 #[] w fun e b=>e=.r (.agg #[.i 2,.i 0])/\Bl w b:=by
 go_in;go_wp2;refine tb (.agg #[.i 2,.i 0]) (by simp[results,results295,go_sem]) ?_;exact⟨rfl,by repeat (first|refine Bry ?_ Hd _|refine Bs4 ?_ Hd _|exact Brm _ _)⟩
def Ma(c:Int)(w:TW):Calls prog 165 #[.i c] w fun e b=>e=.r (.agg #[.i 3,.i c])/\Bl w b:=by
 go_in;go_wp2;refine tb (.agg #[.i 3,.i c]) (by simp[results,results165,go_sem]) ?_;exact⟨rfl,by repeat (first|refine Bry ?_ Hd _|refine Bs4 ?_ Hd _|exact Brm _ _)⟩
def Bc1(c:Int)(w:TW):Calls prog 268 #[.i c] w fun e b=>e=.r (.agg #[.i 4,.i c])/\Bl w b:=by
 go_in;go_wp2;refine tb (.agg #[.i 4,.i c]) (by simp[results,results268,go_sem]) ?_;exact⟨rfl,by repeat (first|refine Bry ?_ Hd _|refine Bs4 ?_ Hd _|exact Brm _ _)⟩
def Bie (a:TA)(n B:Nat):Prop:=∀g o,a=some ⟨g,o,none⟩->n<=g\/g<B
def Zp(m:PM)(w:TW):Calls prog 294 #[m.val] w fun e i=>∃a c,e=.r (.s a (Ds (m.r1,m.r2)).length c)/\TyR i (.s a (Ds (m.r1,m.r2)).length c) (Ds (m.r1,m.r2))/\Bie a w.heap.size 0/\Bl w i:=by
 obtain⟨j,l,p,q,t,b,f,v,z,A,cn,B,C,D,F,G,I,J⟩:=m;simp only[PM.val];unfold Ds;by_cases h:b=0;·subst h;simp only[Bv7];go_in;go_wp2;go_ret;exact⟨none,0,rfl,TyR.nil _,fun g o e=>(by cases e),QN _⟩
 have N:(b==0)=false:=by simp[h]
 simp only[h,Btv];have K:=Bu w (O18 j l p q t b f v z A cn B C D F G I J) (O7 b f);have L:=TyR.new1 (w.alloc (O18 j l p q t b f v z A cn B C D F G I J)) b f;clear h;go_in;go_wp2;go_ret;exact⟨some ⟨w.heap.size+1,0,none⟩,1,rfl,by simpa using L,fun g o e=>(by simp at e;omega),K⟩
structure Ru(b:PBd)(w:World)(bb:Nat)(lm:List (Rd.Mth × Ex))(fl:List (Value × List (Int × Int))):Prop where
 ml:b.fl2=lm.length
 m6:lm.length<=1000
 ms:Eb w bb (.slice b.fa2 b.fl2 b.fc2) lm
 yl:b.yn=fl.length
 y14:fl.length<=14
 yf:∀p∈fl,p.2.length<=1000
 fs:Lx w bb (.slice b.ya b.yn b.yc) fl
 tl:b.T.length<=1000
 tr:Dy w b.tg b.T
 ll:b.L.length<=100000
 ins:Jz w bb (.slice b.la b.L.length b.lc) b.L
def Ru.below{b:PBd}{w s:TW}{u:Nat}{T:List (Rd.Mth×Ex)}{f:List (Value×List (Int×Int))}(h:Ru b w u T f)(c:Bl w s):Ru b s u T f :=
 ⟨h.ml,h.m6,h.ms.kp (Kp.of_below (e:=none) c) Fm Fm Fm Fm Fm,h.yl,h.y14,h.yf,h.fs.below c,h.tl,h.tr.below c,h.ll,h.ins.kp (Kp.of_below (e:=none) c) Fm⟩
theorem Eb.mth2{w:World}{u:Nat}{a:Option Addr}{n t:Nat}{T:List (Rd.Mth×Ex)}(h:Eb w u (.slice a n t) T){k:Nat}(A:k<T.length):∃(m:PM) (g:Nat),a=some ⟨g,0,none⟩/\g<w.heap.size/\(∀j v,m.list[j]?=some v->w.cell? ⟨g,k*10+j,none⟩=some v)/\m.is T[k].1 w u/\(.slice m.pa m.pl m.pc:Value)=T[k].2.params:=by
 obtain⟨B,I⟩:=h;obtain⟨xa,xc,C⟩:=Bh B;simp only[Value.slice.injEq]at C;obtain⟨rfl,rfl,rfl⟩:=C;obtain⟨g,J,K,_,L⟩:=Cf B Ck;obtain⟨f,i,p,q,D,s⟩:=I _ (Brn A);have F:=fun j z=>Bqg T k A j z;generalize T[k]=x at *;obtain⟨x,e⟩:=x;obtain⟨up,uc,uh,um⟩:=e;simp only at f i p s F;obtain⟨N,O,rfl⟩:=Bh f;obtain⟨Q,V,rfl⟩:=Bh i;obtain⟨Y,Z,rfl⟩:=Bh p;obtain⟨ma,mc,rfl⟩:=Bh s.1;have a0:q.length=x.maps.length:=by rw[<- D];simp
 refine⟨⟨x.cl,x.name,N,x.params.length,O,x.result.1,x.result.2,x.locals,x.stack,Q,x.code.length,V,Y,x.handlers.length,Z,ma,q.length,mc⟩,g,J,K,?_,⟨rfl,rfl,rfl,rfl,rfl,rfl,rfl,f,rfl,i,rfl,p,a0,q,D,s⟩,rfl⟩;intro j v G;have z:j<10:=by
  have:=(List.getElem?_eq_some_iff.1 G).1;simpa[PM.list] using this
 obtain⟨e1,e2⟩:=F j z;rw[L _ e2,e1,<- G];rfl
def Zo(b:PBd)(j:Nat)(c:List (Rd.Mth×Ex))(fl:List (Value×List (Int×Int)))(n:Nat)(w:TW)(h:Ru b w j c fl)(hn:n<c.length):Calls prog 293 #[b.val,.i (n:Int)] w fun e l=>∃m:PM,e=.returned m.val/\m.is c[n].1 l j/\(.s m.pa m.pl m.pc:TX)=c[n].2.params/\Bl w l:=by
 obtain⟨q,g,p,a1,Ev,hq,f⟩:=h.ms.mth2 hn;obtain⟨y0,y1,y2,y3,y4,y5,y6,y7,y8,y9⟩:=T5 Ev;have t:=h.ml;have v:=h.yl;obtain⟨a2,a3,a4,a5,a6,a7,tg,tc,ya,yn,yc,cl,nm,pa,pl,pc,r1,r2,lo,st,ca,cn,cc,ha,hl,hc,ma,ml,mc,la,lc,T,L⟩:=b;simp only at t v p;subst t v p;simp only[PBd.val];generalize c[n]=x at *;have kb:(n:Int)<(c.length:Int):=Ck;have a8:¬(n:Int)<0:=Ck;obtain⟨z,A,B,C,D,F,G,I,J,K,N,O,Q,V,Y,Z,qh,qi⟩:=q;simp only at y0 y1 y2 y3 y4 y5 y6 y7 y8 y9 f;have a0:=Bc f;clear Ev h f;go_in;go_wp2;refine tb (.agg #[.i z,.i A,.s B C D,.i F,.i G,.i I,.i J,.s K N O,.s Q V Y,.s Z qh qi]) (by simp[results,results293,go_sem]) ?_;exact⟨⟨z,A,B,C,D,F,G,I,J,K,N,O,Q,V,Y,Z,qh,qi⟩,rfl,hq.below (Bu _ _ _),Ba a0,Bu _ _ _⟩
def J4 (L:List Cd.Ins)(c place:Int):Bool:=(Cd.findAt place L).isSome&&((Cd.orZero (Cd.findAt place L)).op==15)&&((Cd.orZero (Cd.findAt place L)).n==c)
def Bha(b:PBd)(s:Nat)(z:List (Rd.Mth×Ex))(A:List (Value×List (Int×Int)))(j c:Int)(w:TW)(h:Ru b w s z A):Calls prog 290 #[b.val,.i j,.i c] w fun e l=>e=.r (.bool (J4 b.L c j))/\Bl w l:=by
 have p:=fun l (B:Bl w l)=>Bac b.L b.la b.lc s j l h.ll (h.below B).ins;unfold J4;generalize Cd.findAt j b.L=r at *;obtain⟨D,F,G,I,J,K,N,O,ya,yn,yc,Q,V,Y,Z,pc,r1,r2,lo,st,ca,cn,cc,ha,hl,hc,ma,ml,mc,la,lc,T,L⟩:=b;simp only[PBd.val]at p ⊢;have m:=Bc p;clear p h;cases r with
 | none =>
  go_in;go_wp2_with fail;refine Qm (Ba m _ (QN _)) ?_;intro t g;have f:=((Brm w.heap.size w).alloc (Bru _) _).trans (g.mono Hd);go_wp2;go_ret;exact⟨rfl,f.alloc f.size _⟩
 | some x =>
  obtain⟨xp,v,xn⟩:=x;simp only[Cd.orZero]at m ⊢;by_cases q:v=15;·subst q;go_in;go_wp2_with fail;refine Qm (Ba m _ (QN _)) ?_;intro t g;have f:=((Brm w.heap.size w).alloc (Bru _) _).trans (g.mono Hd);go_wp2;go_ret;exact⟨Hd,f.alloc f.size _⟩
  have C:(v==15)=false:=by simp[q]
  clear q;rw[C];go_in;go_wp2_with fail;refine Qm (Ba m _ (QN _)) ?_;intro t g;have f:=((Brm w.heap.size w).alloc (Bru _) _).trans (g.mono Hd);go_wp2;go_ret;exact⟨rfl,f.alloc f.size _⟩
def Hs (fs:List (List (Int × Int)))(ms:List Rd.Mth)(res:Int × Int)(op n:Int):List (Int × Int) :=
 if op=7\/op=8\/op=9\/op=10\/op=13 then [(1,0),(1,0)] else if op=12\/op=25 then [(1,0)] else if op=14\/op=19 then [(3,0)]
 else if op=17 then [(3,(J5 fs n).1)] else if op=18 then [(3,(J5 fs n).1),(J5 fs n).2]
 else if op=20 then (ms.getD n.toNat ⟨0,0,[],(0,0),0,0,[],[],[]⟩).params else if op=21 then (3,(ms.getD n.toNat ⟨0,0,[],(0,0),0,0,[],[],[]⟩).cl)::(ms.getD n.toNat ⟨0,0,[],(0,0),0,0,[],[],[]⟩).params
 else if op=22 then Ds res else if op=23 then [(3,1)] else []
def Gm (fs:List (List (Int × Int)))(ms:List Rd.Mth)(op n:Int):List (Int × Int) :=
 if op=0\/op=24\/op=7\/op=8\/op=9\/op=10 then [(1,0)] else if op=1 then [(2,0)] else if op=17 then [(J5 fs n).2]
 else if op=19 then [(3,n)] else if op=20\/op=21 then Ds (ms.getD n.toNat ⟨0,0,[],(0,0),0,0,[],[],[]⟩).result else []
def Bg5(b:PBd)(bb B:Nat)(f:List (Rd.Mth×Ex))(K:List (Value×List (Int×Int)))(pp op:Int)(n:Nat)(w:TW)(h:Ru b w bb f K)(hn:n<=100000)(hB:∀p∈f,∀g,p.2.params.ownBlock=some g->g<B)(a0:∀p∈f,p.1.params.length<=1000) (b6:op=20\/op=21->n<f.length):Calls prog 270 #[b.val,.agg #[.i pp,.i op,.i (n:Int)]] w fun e I=>∃a c,e=.r (.s a (Hs (K.map Prod.snd) (f.map Prod.fst) (b.r1,b.r2) op (n:Int)).length c)/\TyR I (.s a (Hs (K.map Prod.snd) (f.map Prod.fst) (b.r1,b.r2) op (n:Int)).length c) (Hs (K.map Prod.snd) (f.map Prod.fst) (b.r1,b.r2) op (n:Int))/\Bie a w.heap.size B/\Bl w I:=by
 have a4:=fun I (hb:Bl w I)=>Bbn (aa:=some ⟨b.tg,0,none⟩) (an:=b.T.length) (ac:=b.tc) K bb b.ya b.yc (n:Int) I (by have:=h.y14;omega) ⟨Ck,Ck⟩ h.yf (by have:=(h.below hb).fs;rw[h.yl]at this;exact this);have a7:=fun (A:n<f.length) I (hb:Bl w I)=>Zo b bb f K n I (h.below hb) A;have a8:=fun (m:PM) I=>Zp m I;have b7:=h.ml;have b8:=h.yl;have c6:=h.ms;obtain⟨a9,b0,b1,b2,f3,b3,tg,tc,ya,yn,yc,cl,nm,pa,pl,pc,r1,r2,lo,st,ca,cn,cc,ha,A,hc,ma,ml,mc,la,lc,T,L⟩:=b;simp only at b7 b8 c6;subst b7 b8;simp only[PBd.val,PM.val]at a4 a7 a8 ⊢;generalize a5:Hs (K.map Prod.snd) (f.map Prod.fst) (r1,r2) op (n:Int)=R;unfold Hs at a5;have a2:∀A:n<f.length,(f.map Prod.fst).getD ((n:Nat):Int).toNat ⟨0,0,[],(0,0),0,0,[],[],[]⟩=f[n].1:=fun A=>by simp[Vm,A]
 generalize J5 (K.map Prod.snd) (n:Int)=FD at *;obtain⟨fo,Y,Z⟩:=FD;simp only at a4 a5;have V:=Bc a5;have b9:=Bc a4;have c0:=Bc a7;have c7:=Bc a8;have c1:=Bc a2;have c8:=Bc hB;have c2:=Bc a0;have c3:=Bc b6;clear a4 a7 a8 a5 h a2 hB a0 b6;have F:=Bu w (O24 a9 b0 b1 b2 f.length b3 (.p tg) T.length tc ya K.length yc cl nm pa pl pc r1 r2 lo st ca cn cc ha A hc ma ml mc la L.length lc) (O15 pp op (n:Int));have U0:=Cb w (O24 a9 b0 b1 b2 f.length b3 (.p tg) T.length tc ya K.length yc cl nm pa pl pc r1 r2 lo st ca cn cc ha A hc ma ml mc la L.length lc) (O15 pp op (n:Int));have I0:=Bx w (O24 a9 b0 b1 b2 f.length b3 (.p tg) T.length tc ya K.length yc cl nm pa pl pc r1 r2 lo st ca cn cc ha A hc ma ml mc la L.length lc) (O15 pp op (n:Int));by_cases l:op=7\/op=8\/op=9\/op=10\/op=13
 ·rcases l with rfl|rfl|rfl|rfl|rfl
  all_goals
   have z:Hid (R=[(1,0),(1,0)]):=by unfold Hid;rw[<- Ba V];simp
   go_in;go_wp2_with fail;refine Qb (Sh _) F ?_;intro v N t;have G:=t.size;go_wp2_with fail;refine Qm (Sh _) ?_;intro J D;have O:=t.trans (D.mono G);have a1:=O.size;have Q:=O.alloc a1 (O20 1 0 1 0);go_wp2;go_ret;rw[Ba z];exact⟨some ⟨J.heap.size,0,none⟩,2,rfl,TyR.new2 J _ _ _ _,fun g o e=>(by simp at e;omega),Q⟩
 have n7:(op==7)=false:=Fr;have n8:(op==8)=false:=Fr;have n9:(op==9)=false:=Fr;have f4:(op==10)=false:=Fr;have f5:(op==13)=false:=Fr;have i7:¬(op=7\/op=8\/op=9\/op=10\/op=13):=l;clear l;by_cases l:op=12\/op=25
 ·rcases l with rfl|rfl
  all_goals
   have z:Hid (R=[(1,0)]):=by unfold Hid;rw[<- Ba V];simp
   go_in;go_wp2_with fail;refine Qb (Sh _) F ?_;intro v N t;have G:=t.size;have Q:=t.alloc G (O7 1 0);go_wp2;go_ret;rw[Ba z];exact⟨some ⟨v.heap.size,0,none⟩,1,rfl,TyR.new1 v _ _,fun g o e=>(by simp at e;omega),Q⟩
 have f6:(op==12)=false:=Fr;have f7:(op==25)=false:=Fr;have c9:¬(op=12\/op=25):=l;clear l;by_cases l:op=14\/op=19
 ·rcases l with rfl|rfl
  all_goals
   have z:Hid (R=[(3,0)]):=by unfold Hid;rw[<- Ba V];simp
   go_in;go_wp2_with fail;refine Qb (Ma 0 _) F ?_;intro v N t;have G:=t.size;have Q:=t.alloc G (O7 3 0);go_wp2;go_ret;rw[Ba z];exact⟨some ⟨v.heap.size,0,none⟩,1,rfl,TyR.new1 v _ _,fun g o e=>(by simp at e;omega),Q⟩
 have f8:(op==14)=false:=Fr;have f9:(op==19)=false:=Fr;have d0:¬(op=14\/op=19):=l;clear l;by_cases l:op=17
 ·subst l;have z:Hid (R=[(3,fo)]):=by unfold Hid;rw[<- Ba V];simp
  go_in;go_wp2_with fail;refine Qb (Ba b9 _ F) F ?_;intro v N t;have G:=t.size;go_wp2_with fail;refine Qm (Ma fo _) ?_;intro J D;have O:=(t.alloc G (O7 Y Z)).trans (D.mono Fr);have a1:=O.size;have Q:=O.alloc a1 (O7 3 fo);go_wp2;go_ret;rw[Ba z];exact⟨some ⟨J.heap.size,0,none⟩,1,rfl,TyR.new1 J _ _,fun g o e=>(by simp at e;omega),Q⟩
 have g0:(op==17)=false:=Fr;have d1:¬(op=17):=l;clear l;by_cases l:op=18
 ·subst l;have z:Hid (R=[(3,fo),(Y,Z)]):=by unfold Hid;rw[<- Ba V];simp
  go_in;go_wp2_with fail;refine Qb (Ba b9 _ F) F ?_;intro v N t;have G:=t.size;have TA:=Be v (O7 Y Z);have p0:(v.alloc (O7 Y Z)).C v.heap.size 0 (.i Y):=(Bb TA 0).trans rfl;have p1:(v.alloc (O7 Y Z)).C v.heap.size 1 (.i Z):=(Bb TA 1).trans rfl;have lT:=Sp TA;go_wp2
  go_region_held3 (fun I=>I.C v.heap.size 0 (.i Y)/\I.C v.heap.size 1 (.i Z)) (first|exact⟨p0,p1⟩|exact⟨QC D lT p0,QC D lT p1⟩|exact⟨QA (QL D lT) (QC D lT p0),QA (QL D lT) (QC D lT p1)⟩) (first|(go_at_call 165;refine(Ma fo _).mono ?_;rintro e J ⟨rfl,D⟩))
  have O:=(t.alloc G (O7 Y Z)).drew.trans (D.mono Fr);have a1:=O.size;have Q:=O.alloc a1 (O20 3 fo Y Z);go_wp2;go_ret;rw[Ba z];exact⟨some ⟨J.heap.size,0,none⟩,2,rfl,TyR.new2 J _ _ _ _,fun g o e=>(by simp at e;omega),Q⟩
 have g1:(op==18)=false:=Fr;have d2:¬(op=18):=l;clear l;by_cases l:op=20
 ·subst l;have A:=Ba c3 Hd;have a2:=Ba c1 A;have d3:=Ba c2 f[n] (Brn A);have z:Hid (R=f[n].1.params):=by unfold Hid;rw[<- Ba V];rw[a2];simp
  go_in;go_wp2_with fail;refine(Ba c0 A _ F).mono ?_;rintro e v ⟨q,rfl,hq,a6,N⟩;have t:=QB F N;have G:=t.size;have a0:=TyR.of_tys hq.ps;have a3:=hq.pl;have b4:=fun g=>Ba c8 f[n] (Brn A) g;rw[<- a6]at b4;obtain⟨q1,q2,q3,q4,q5,q6,q7,q8,q9,qa,qb,qc,qd,qe,qf,qg,qh,qi⟩:=q;simp only at a0 b4 a3;subst a3;clear hq a6;have g2:∀w:TW,(Instr.field 133 (.agg #[.i q1,.i q2,.s q3 f[n].1.params.length q5,.i q6,.i q7,.i q8,.i q9,.s qa qb qc,.s qd qe qf,.s qg qh qi]) 2).run prog w=.ok (.s q3 f[n].1.params.length q5) w:=fun _=>Lt;go_wp2;go_ret;rw[Ba z];exact⟨q3,q5,rfl,a0,fun g o e=>(by subst e;exact Or.inr (b4 g rfl)),t⟩
 have g3:(op==20)=false:=Fr;have d4:¬(op=20):=l;clear l;by_cases l:op=21
 ·subst l;have A:=Ba c3 Hd;have a2:=Ba c1 A;have d3:=Ba c2 f[n] (Brn A);have z:Hid (R=(3,f[n].1.cl)::f[n].1.params):=by unfold Hid;rw[<- Ba V];rw[a2];simp
  go_in;go_wp2_with fail;refine(Ba c0 A _ F).mono ?_;rintro e v ⟨q,rfl,hq,a6,N⟩;have t:=QB F N;have G:=t.size;have a0:=TyR.of_tys hq.ps;have a3:=hq.pl;have c4:=hq.cl;obtain⟨q1,q2,q3,q4,q5,q6,q7,q8,q9,qa,qb,qc,qd,qe,qf,qg,qh,qi⟩:=q;simp only at a0 a3 c4;subst a3 c4;have MA:=Be v (O18 f[n].1.cl q2 q3 f[n].1.params.length q5 q6 q7 q8 q9 qa qb qc qd qe qf qg qh qi);have ma:=Bb MA 0;have mb:=Bb MA 2;have lM:=Sp MA;simp at ma mb;clear hq a6;go_wp2_with fail;refine Qm (Ma _ _) ?_;intro J D;have O:=(t.alloc G (O18 f[n].1.cl q2 q3 f[n].1.params.length q5 q6 q7 q8 q9 qa qb qc qd qe qf qg qh qi)).trans (D.mono Fr);have a1:=O.size;have M2:=stay D MA;have mc:=Bb M2 2;have g4:=Sp M2;simp at mc;have d5:=((a0.below (QN (O18 f[n].1.cl q2 q3 f[n].1.params.length q5 q6 q7 q8 q9 qa qb qc qd qe qf qg qh qi))).below D).below (QN (O7 3 f[n].1.cl));have c5:(J.alloc (O7 3 f[n].1.cl)).ownsRow w.heap.size 31 2 (.s (.p J.heap.size) 1 1) [((3:Int),f[n].1.cl)].length (Bp [((3:Int),f[n].1.cl)]):=⟨rfl,.inr ⟨J.heap.size,1,_,rfl,a1,Be J _,Hd,Pf,rfl,rfl⟩⟩;go_wp2_with (at_builtin;refine Jo rfl _ _ rfl w.heap.size _ [((3:Int),f[n].1.cl)] f[n].1.params q3 f[n].1.params.length q5 rfl c5 rfl d5 Fr Fr ?_)
  intro v' w3 b5 d6;obtain⟨va,vc,rfl⟩:=Bh b5;have d7:=(O.alloc a1 (O7 3 f[n].1.cl)).grown d6 Fr (fun j hj=>(c5.lt j hj).1);have d8:=fun j hj=>(b5.lt j hj).1;go_wp2;go_ret;rw[Ba z];exact⟨va,vc,Hd,by simpa using Gw b5 Hd,fun g o e=>(by subst e;exact Or.inl (d8 g rfl)),d7⟩
 have g5:(op==21)=false:=Fr;have d9:¬(op=21):=l;clear l;by_cases l:op=22
 ·subst l;have z:Hid (R=Ds (r1,r2)):=by unfold Hid;rw[<- Ba V];simp
  go_in;go_wp2_with fail;refine(Ba c7 ⟨cl,nm,pa,pl,pc,r1,r2,lo,st,ca,cn,cc,ha,A,hc,ma,ml,mc⟩ _).mono ?_;rintro e v ⟨a,c,rfl,ht,f0,N⟩;have t:=QB F N;go_wp2;go_ret;rw[Ba z];exact⟨a,c,rfl,ht,fun g o e=>(by have:=f0 g o e;simp at this;omega),t⟩
 have g6:(op==22)=false:=Fr;have f1:¬(op=22):=l;clear l;by_cases l:op=23
 ·subst l;have z:Hid (R=[(3,1)]):=by unfold Hid;rw[<- Ba V];simp
  go_in;go_wp2_with fail;refine Qb (Ma 1 _) F ?_;intro v N t;have G:=t.size;have Q:=t.alloc G (O7 3 1);go_wp2;go_ret;rw[Ba z];exact⟨some ⟨v.heap.size,0,none⟩,1,rfl,TyR.new1 v _ _,fun g o e=>(by simp at e;omega),Q⟩
 have g7:(op==23)=false:=Fr;have f2:¬(op=23):=l;clear l;have z:Hid (R=[]):=by unfold Hid;rw[<- Ba V];simp[i7,c9,d0,d1,d2,d4,d9,f1,f2]
 go_in;go_wp2;go_ret;rw[Ba z];exact⟨none,0,rfl,TyR.nil _,fun g o e=>(by cases e),F⟩
def Bex(b:PBd)(Z B:Nat)(f:List (Rd.Mth×Ex))(z:List (Value×List (Int×Int)))(Q op:Int)(n:Nat)(w:TW)(h:Ru b w Z f z)(hn:n<=100000)(hB:∀p∈f,∀g,p.2.params.ownBlock=some g->g<B)(a9:∀p∈f,p.1.params.length<=1000) (b0:op=20\/op=21->n<f.length):Calls prog 272 #[b.val,.agg #[.i Q,.i op,.i (n:Int)]] w fun e C=>∃a c,e=.r (.s a (Gm (z.map Prod.snd) (f.map Prod.fst) op (n:Int)).length c)/\TyR C (.s a (Gm (z.map Prod.snd) (f.map Prod.fst) op (n:Int)).length c) (Gm (z.map Prod.snd) (f.map Prod.fst) op (n:Int))/\Bie a w.heap.size B/\Bl w C:=by
 have V:=fun C (hb:Bl w C)=>Bbn (aa:=some ⟨b.tg,0,none⟩) (an:=b.T.length) (ac:=b.tc) z Z b.ya b.yc (n:Int) C (by have:=h.y14;omega) ⟨Ck,Ck⟩ h.yf (by have:=(h.below hb).fs;rw[h.yl]at this;exact this);have a0:=fun (t:n<f.length) C (hb:Bl w C)=>Zo b Z f z n C (h.below hb) t;have a1:=fun (m:PM) C=>Zp m C;have b1:=h.ml;have b2:=h.yl;have b4:=h.ms;obtain⟨a2,a3,a4,a5,d0,a6,tg,tc,ya,yn,yc,cl,nm,pa,pl,pc,r1,r2,lo,st,ca,cn,cc,ha,t,hc,ma,ml,mc,la,lc,T,L⟩:=b;simp only at b1 b2 b4;subst b1 b2;simp only[PBd.val,PM.val]at V a0 a1 ⊢;generalize Y:Gm (z.map Prod.snd) (f.map Prod.fst) op (n:Int)=R;unfold Gm at Y;have J:∀t:n<f.length,(f.map Prod.fst).getD ((n:Nat):Int).toNat ⟨0,0,[],(0,0),0,0,[],[],[]⟩=f[n].1:=fun t=>by simp[Vm,t]
 generalize J5 (z.map Prod.snd) (n:Int)=FD at *;obtain⟨fo,K,N⟩:=FD;simp only at V Y;have I:=Bc Y;have b5:=Bc V;have b6:=Bc a0;have b7:=Bc a1;have b8:=Bc J;have d1:=Bc hB;have b9:=Bc a9;have c0:=Bc b0;clear V a0 a1 Y h J hB a9 b0;have F:=Bu w (O24 a2 a3 a4 a5 f.length a6 (.p tg) T.length tc ya z.length yc cl nm pa pl pc r1 r2 lo st ca cn cc ha t hc ma ml mc la L.length lc) (O15 Q op (n:Int));have U0:=Cb w (O24 a2 a3 a4 a5 f.length a6 (.p tg) T.length tc ya z.length yc cl nm pa pl pc r1 r2 lo st ca cn cc ha t hc ma ml mc la L.length lc) (O15 Q op (n:Int));have I0:=Bx w (O24 a2 a3 a4 a5 f.length a6 (.p tg) T.length tc ya z.length yc cl nm pa pl pc r1 r2 lo st ca cn cc ha t hc ma ml mc la L.length lc) (O15 Q op (n:Int));by_cases j:op=0\/op=24\/op=7\/op=8\/op=9\/op=10
 ·rcases j with rfl|rfl|rfl|rfl|rfl|rfl
  all_goals
   have A:Hid (R=[(1,0)]):=by unfold Hid;rw[<- Ba I];simp
   go_in;go_wp2_with fail;refine Qb (Sh _) F ?_;intro v O l;have D:=l.size;have G:=l.alloc D (O7 1 0);go_wp2;go_ret;rw[Ba A];exact⟨some ⟨v.heap.size,0,none⟩,1,rfl,TyR.new1 v _ _,fun g o e=>(by simp at e;omega),G⟩
 have n0:(op==0)=false:=Fr;have d2:(op==24)=false:=Fr;have n7:(op==7)=false:=Fr;have n8:(op==8)=false:=Fr;have n9:(op==9)=false:=Fr;have d3:(op==10)=false:=Fr;have i0:¬(op=0\/op=24\/op=7\/op=8\/op=9\/op=10):=j;clear j;by_cases j:op=1
 ·subst j;have A:Hid (R=[(2,0)]):=by unfold Hid;rw[<- Ba I];simp
  go_in;go_wp2_with fail;refine Qb (Bjm _) F ?_;intro v O l;have D:=l.size;have G:=l.alloc D (O7 2 0);go_wp2;go_ret;rw[Ba A];exact⟨some ⟨v.heap.size,0,none⟩,1,rfl,TyR.new1 v _ _,fun g o e=>(by simp at e;omega),G⟩
 have n1:(op==1)=false:=Fr;have i1:¬(op=1):=j;clear j;by_cases j:op=17
 ·subst j;have A:Hid (R=[(K,N)]):=by unfold Hid;rw[<- Ba I];simp
  go_in;go_wp2_with fail;refine Qb (Ba b5 _ F) F ?_;intro v O l;have D:=l.size;have G:=(l.alloc D (O7 K N)).alloc Fr (O7 K N);go_wp2;go_ret;rw[Ba A];exact⟨some ⟨v.heap.size+1,0,none⟩,1,rfl,by simpa using TyR.new1 (v.alloc (O7 K N)) K N,fun g o e=>(by simp at e;omega),G⟩
 have d4:(op==17)=false:=Fr;have c1:¬(op=17):=j;clear j;by_cases j:op=19
 ·subst j;have A:Hid (R=[(3,(n:Int))]):=by unfold Hid;rw[<- Ba I];simp
  go_in;go_wp2_with fail;refine Qb (Ma (n:Int) _) F ?_;intro v O l;have D:=l.size;have G:=l.alloc D (O7 3 (n:Int));go_wp2;go_ret;rw[Ba A];exact⟨some ⟨v.heap.size,0,none⟩,1,rfl,TyR.new1 v _ _,fun g o e=>(by simp at e;omega),G⟩
 have d5:(op==19)=false:=Fr;have c2:¬(op=19):=j;clear j;by_cases j:op=20\/op=21
 ·rcases j with rfl|rfl
  all_goals
   have t:=Ba c0 Hd;have J:=Ba b8 t;have c3:=Ba b9 f[n] (Brn t);have A:Hid (R=Ds f[n].1.result):=by unfold Hid;rw[<- Ba I];rw[J];simp
   go_in;go_wp2_with fail;refine(Ba b6 t _ F).mono ?_;rintro e v ⟨q,rfl,hq,c4,O⟩;have l:=QB F O;have D:=l.size;have a7:=hq.r1;have a8:=hq.r2;obtain⟨q1,q2,q3,q4,q5,q6,q7,q8,q9,qa,qb,qc,qd,qe,qf,qg,qh,qi⟩:=q;simp only at a7 a8;have b3:Ds f[n].1.result=Ds (q6,q7):=by rw[a7,a8]
   have c5:=Bc b3;clear hq c4 a7 a8 b3 J c3;go_wp2_with fail;refine(Ba b7 ⟨q1,q2,q3,q4,q5,q6,q7,q8,q9,qa,qb,qc,qd,qe,qf,qg,qh,qi⟩ _).mono ?_;rintro e w2 ⟨a,c,rfl,ht,c6,c7⟩;have c8:=(l.alloc D (O18 q1 q2 q3 q4 q5 q6 q7 q8 q9 qa qb qc qd qe qf qg qh qi)).trans (c7.mono Fr);go_wp2;go_ret;rw[Ba A,Ba c5];exact⟨a,c,rfl,ht,fun g o e=>(by have:=c6 g o e;simp at this;omega),c8⟩
 have d6:(op==20)=false:=Fr;have d7:(op==21)=false:=Fr;have c9:¬(op=20\/op=21):=j;clear j;have A:Hid (R=[]):=by unfold Hid;rw[<- Ba I];simp[i0,i1,c1,c2,c9]
 go_in;go_wp2;go_ret;rw[Ba A];exact⟨none,0,rfl,TyR.nil _,fun g o e=>(by cases e),F⟩
def Bmf(b:PBd)(bb k:Nat)(lm:List (Rd.Mth×Ex))(B:List (Value×List (Int×Int)))(c:BnC)(v:FrV)(q:Dv)(n:Nat)(l w:TW)(D:Ru b l bb lm B)(hw:Bl l w)(h:Ea w l.heap.size k c v q):Calls prog 269 #[b.val,.q k 0,.i (n:Int)] w fun e j=>e=.r (.tuple #[])/\∃v',Ea j l.heap.size k c v' (W5 c.T (Dk b.T (B.map Prod.snd) (n:Int)) (J4 b.L (n:Int)) (n:Int) q)/\Bn k w v j v':=by
 have b6:=fun j (hb:Bl l j)=>Ti b.T b.tg b.tc B bb b.ya b.yc (n:Int) j D.y14 D.tl D.yf (D.below hb).tr (by have:=(D.below hb).fs;rw[D.yl]at this;exact this);have a6:=fun c7 j (hb:Bl l j)=>Bha b bb lm B c7 (n:Int) j (D.below hb);have d3:(Dk b.T (B.map Prod.snd) (n:Int)).length<=14000:=by
  unfold Dk;have:=Mm b.T (B.map Prod.snd) (n:Int) (fun p hp=>by obtain⟨x,hx,rfl⟩:=List.mem_map.1 hp;exact D.yf x hx) (B.map Prod.snd).length;have d7:=D.y14;rw[Br1]at this ⊢;omega
 have c8:=D.ml;have c9:=D.yl;obtain⟨a7,a8,a9,b0,d8,b1,tg,tc,ya,yn,yc,cl,nm,pa,pl,pc,r1,r2,lo,st,ca,cn,cc,ha,hl,hc,ma,ml,mc,la,lc,T,L⟩:=b;simp only at c8 c9;subst c8 c9;simp only[PBd.val]at b6 a6 d3 ⊢;unfold W5;generalize Dk T (B.map Prod.snd) (n:Int)=A at *;have O:∀c7 j,Bl l j->_:=a6;generalize d4:J4 L (n:Int)=d6 at *;have b7:=Bc b6;have b2:=Bc a6;clear b6 a6 O D d4;have K:=h.alloc (O24 a7 a8 a9 b0 lm.length b1 (.p tg) T.length tc ya B.length yc cl nm pa pl pc r1 r2 lo st ca cn cc ha hl hc ma ml mc la L.length lc);have GA:=(Bn.refl k w v).alloc (O24 a7 a8 a9 b0 lm.length b1 (.p tg) T.length tc ya B.length yc cl nm pa pl pc r1 r2 lo st ca cn cc ha hl hc ma ml mc la L.length lc);have UA:=Be w (O24 a7 a8 a9 b0 lm.length b1 (.p tg) T.length tc ya B.length yc cl nm pa pl pc r1 r2 lo st ca cn cc ha hl hc ma ml mc la L.length lc);have N:v.free k w.heap.size:=h.new (Bru _);have a4:=hw.alloc (by exact hw.size) (O24 a7 a8 a9 b0 lm.length b1 (.p tg) T.length tc ya B.length yc cl nm pa pl pc r1 r2 lo st ca cn cc ha hl hc ma ml mc la L.length lc);have d9:=h.k_lt;generalize d0:Bj (Ga c.T A q)=tb;have b8:=Bc d0;obtain⟨⟨t1,m⟩,q2⟩:=tb;simp only;clear d0;unfold Py;by_cases b3:t1=4
 ·subst b3;rw[Pk (show ¬((4:Int),m).1≠4 by simp)];have O:=fun j hb=>Ba b2 m j hb;cases b4:d6 m with
  | false =>
   rw[Th rfl];rw[b4]at O;have HI:=Bc O;clear O b4 b2;go_in;go_wp2_with fail;refine(Ba b7 _ a4).mono ?_;rintro e Q ⟨V,Y,rfl,F,s⟩;have Z:=K.below s;have G1:=GA.trans (Bn.of_below v s);have G:=stay s UA;have a0:TyF Q k v V A.length Y A:=⟨Gw F rfl,fun g o e=>(by subst e;exact K.new (F.lt g rfl).1)⟩;have l1:=Sp G;clear s F;go_wp2_with fail;refine Qm (Rj Q l.heap.size k c v q V A.length Y A Z a0 Ck) ?_;rintro w2 ⟨v2,h2,t⟩;have I:=t.stay N G;have J:=t.free N l1;have l2:=Sp I;go_wp2_with fail;refine(L8 w2 l.heap.size k c v2 _ h2).mono ?_;rw[Ba b8];rintro e w3 ⟨rfl,v3,f,z⟩;simp only at f;have U3:=z.stay J I;have d1:=z.free J l2;have a1:=(G1.trans t).trans z;have a2:=hw.trans (a1.low h);have b5:=a2.size;have b9:=f.new (Bru _);have c5:=Bb f.blk 5;have f5:=Bk f.blk 5;have d2:=f.k_lt;simp at c5;clear G I N J G1 t z Z h2 K GA UA a4 a0 l1 l2;obtain⟨m0,m1,m2,m3,m4,m5,m6,m7,m8,m9,c0,c1,c2,c3,c4⟩:=Tk U3;simp at m0 m1 m2 m3 m4 m5 m6 m7 m8 m9 c0 c1 c2 c3 c4;have lU:=Sp U3;have c6:=a2.alloc b5 (O7 4 m);go_wp2_with fail;refine Qm (Ba HI _ c6) ?_;intro w4 a3;have h4:=(f.alloc (O7 4 m)).below a3;have G4:=(a1.alloc (O7 4 m)).trans (Bn.of_below _ a3);have d5:=Bb h4.blk 5;have e5:=Bk h4.blk 5;have f0:=h4.k_lt;simp at d5;go_wp2;refine tb (.tuple #[]) (by simp[results,results269,go_sem]) ?_;exact⟨rfl,_,h4.brk,G4.brk⟩
  | true =>
   rw[Pk Hd];rw[b4]at O;have HI:=Bc O;clear O b4 b2;go_in;go_wp2_with fail;refine(Ba b7 _ a4).mono ?_;rintro e Q ⟨V,Y,rfl,F,s⟩;have Z:=K.below s;have G1:=GA.trans (Bn.of_below v s);have G:=stay s UA;have a0:TyF Q k v V A.length Y A:=⟨Gw F rfl,fun g o e=>(by subst e;exact K.new (F.lt g rfl).1)⟩;have l1:=Sp G;clear s F;go_wp2_with fail;refine Qm (Rj Q l.heap.size k c v q V A.length Y A Z a0 Ck) ?_;rintro w2 ⟨v2,h2,t⟩;have I:=t.stay N G;have J:=t.free N l1;have l2:=Sp I;go_wp2_with fail;refine(L8 w2 l.heap.size k c v2 _ h2).mono ?_;rw[Ba b8];rintro e w3 ⟨rfl,v3,f,z⟩;simp only at f;have U3:=z.stay J I;have d1:=z.free J l2;have a1:=(G1.trans t).trans z;have a2:=hw.trans (a1.low h);have b5:=a2.size;have b9:=f.new (Bru _);have c5:=Bb f.blk 5;have f5:=Bk f.blk 5;have d2:=f.k_lt;simp at c5;clear G I N J G1 t z Z h2 K GA UA a4 a0 l1 l2;obtain⟨m0,m1,m2,m3,m4,m5,m6,m7,m8,m9,c0,c1,c2,c3,c4⟩:=Tk U3;simp at m0 m1 m2 m3 m4 m5 m6 m7 m8 m9 c0 c1 c2 c3 c4;have lU:=Sp U3;have c6:=a2.alloc b5 (O7 4 m);have XA:=Be w3 (O7 4 m);go_wp2_with fail;refine Qm (Ba HI _ c6) ?_;intro w4 a3;have h4:=(f.alloc (O7 4 m)).below a3;have G4:=(a1.alloc (O7 4 m)).trans (Bn.of_below _ a3);have X4:=stay a3 XA;have p0:w4.C w3.heap.size 0 (.i 4):=(Bb X4 0).trans rfl;have p1:w4.C w3.heap.size 1 (.i m):=(Bb X4 1).trans rfl;have lX:=Sp X4;clear a3;go_wp2
   go_region_held3 (fun j=>j.C w3.heap.size 0 (.i 4)/\j.C w3.heap.size 1 (.i m)) (first|exact⟨p0,p1⟩|exact⟨QC a5 lX p0,QC a5 lX p1⟩|exact⟨(Bb X6 0).trans rfl,(Bb X6 1).trans rfl⟩) (first|(go_at_call 165;refine(Ma (n:Int) _).mono ?_;rintro e w5 ⟨rfl,a5⟩)|(go_at_call 267;refine Qm (Aj w5 l.heap.size k c v3 q2 4 m 3 (n:Int) (h4.drew.below a5)) ?_;rintro w6 ⟨v6,h6,G6⟩;have X6:=G6.stay b9 (stay a5 (show w4.drew.heap[w3.heap.size]?=_ from X4))))
   go_wp2;go_end0;exact⟨rfl,v6,h6,(G4.drew.trans (Bn.of_below _ a5)).trans G6⟩
 rw[Th (show (t1,m).1≠4 from b3)];have f1:(t1 != 4)=true:=by simp[b3]
 clear b3 b2;go_in;go_wp2_with fail;refine(Ba b7 _ a4).mono ?_;rintro e Q ⟨V,Y,rfl,F,s⟩;have Z:=K.below s;have G1:=GA.trans (Bn.of_below v s);have G:=stay s UA;have a0:TyF Q k v V A.length Y A:=⟨Gw F rfl,fun g o e=>(by subst e;exact K.new (F.lt g rfl).1)⟩;have l1:=Sp G;clear s F;go_wp2_with fail;refine Qm (Rj Q l.heap.size k c v q V A.length Y A Z a0 Ck) ?_;rintro w2 ⟨v2,h2,t⟩;have I:=t.stay N G;have J:=t.free N l1;have l2:=Sp I;go_wp2_with fail;refine(L8 w2 l.heap.size k c v2 _ h2).mono ?_;rw[Ba b8];rintro e w3 ⟨rfl,v3,f,z⟩;simp only at f;have U3:=z.stay J I;have d1:=z.free J l2;have a1:=(G1.trans t).trans z;have a2:=hw.trans (a1.low h);have b5:=a2.size;have b9:=f.new (Bru _);have c5:=Bb f.blk 5;have f5:=Bk f.blk 5;have d2:=f.k_lt;simp at c5;clear G I N J G1 t z Z h2 K GA UA a4 a0 l1 l2;go_wp2;refine tb (.tuple #[]) (by simp[results,results269,go_sem]) ?_;exact⟨rfl,_,f.brk.alloc _,a1.brk.alloc _⟩
def Bg4(c:List (List (Int×Int)))(b:List Rd.Mth)(e:∀m∈b,m.params.length<=1000)(f:Int×Int)(op n:Int):(Hs c b f op n).length<=1001:=by
 have g:(b.getD n.toNat ⟨0,0,[],(0,0),0,0,[],[],[]⟩).params.length<=1000:=by
  rw[Vm];rcases h:b[n.toNat]? with _|x
  ·simp
  simp;exact e x (Bs6 h)
 unfold Hs Ds
 repeat' split
 all_goals first|(simp;done)|(simp only[Br7];omega)|omega
def Ea.frame{w:TW}{u k:Nat}{c:BnC}{v:FrV}{b:Dv}(h:Ea w u k c v b):v.is ⟨b.lo,b.st⟩ w:=⟨TyR.of_tys h.lo,TyR.of_tys h.st,by have:=h.ll;simp only;omega,h.sl⟩
def Yk(b:Dv):(Bj b).2.st.length<=b.st.length:=by unfold Bj;split<;>simp
def Bba(c:Int)(t:Int×Int)(b:Dv):(Ed c t b).st.length<=b.st.length+1:=by unfold Ed;split<;>simp
def Bew(b:List (List (Int×Int)))(c:List Rd.Mth)(op n:Int):(Gm b c op n).length<=1:=by
 unfold Gm Ds
 repeat' split
 all_goals simp
def Bey(b:PBd)(bb:Nat)(G:List (Rd.Mth×Ex))(A:List (Value×List (Int×Int)))(pp op:Int)(n:Nat)(v:FrV)(x:Bf)(w:TW)(hR:Ru b w bb G A)(hx:v.is x w)(hn:n<=100000)(g2:x.locals.length<=1000)(g3:x.stack.length<=1000) (b4:∀p∈G,p.1.params.length<=1000)(c5:op=20\/op=21->n<G.length):Calls prog 221 #[b.val,.agg #[.i pp,.i op,.i (n:Int)],v.val] w fun e Z=>∃u:FrV, e=.r (.tuple #[u.val,.bool (L3 b.T b.st (Hs (A.map Prod.snd) (G.map Prod.fst) (b.r1,b.r2) op (n:Int)) (Gm (A.map Prod.snd) (G.map Prod.fst) op (n:Int)) (Dk b.T (A.map Prod.snd) (n:Int)) (J4 b.L (n:Int)) pp op (n:Int) x).isSome])/\(∀y,L3 b.T b.st (Hs (A.map Prod.snd) (G.map Prod.fst) (b.r1,b.r2) op (n:Int)) (Gm (A.map Prod.snd) (G.map Prod.fst) op (n:Int)) (Dk b.T (A.map Prod.snd) (n:Int)) (J4 b.L (n:Int)) pp op (n:Int) x=some y->u.is y Z)/\Bl w Z:=by
 have c6:∀p∈G,∀g,p.2.params.ownBlock=some g->g<w.heap.size:=fun p hp g hg=>((hR.ms.2 p hp).1.lt g hg).2;have c7:=fun Z (hb:Bl w Z)=>Bg5 b bb w.heap.size G A pp op n Z (hR.below hb) hn c6 b4 c5;have c8:=fun Z (hb:Bl w Z)=>Bex b bb w.heap.size G A pp op n Z (hR.below hb) hn c6 b4 c5;have c9:=fun k c v q Z (hb:Bl w Z) hq=>Bmf b bb k G A c v q n w Z hR hb hq;have a8:=fun c Z (h:Bl w Z)=>Beh c v x Z (hx.below h);have f0:=hR.ml;have f1:=hR.yl;have d0:=hR.tr;have f2:=hR.tl;generalize b5:L3 b.T b.st (Hs (A.map Prod.snd) (G.map Prod.fst) (b.r1,b.r2) op (n:Int)) (Gm (A.map Prod.snd) (G.map Prod.fst) op (n:Int)) (Dk b.T (A.map Prod.snd) (n:Int)) (J4 b.L (n:Int)) pp op (n:Int) x=PB;unfold L3 V5 at b5;have j3:(Hs (A.map Prod.snd) (G.map Prod.fst) (b.r1,b.r2) op (n:Int)).length<=1001:=Bg4 _ _ (fun m hm=>by obtain⟨p,hp,rfl⟩:=List.mem_map.1 hm;exact b4 p hp) _ _ _;have j4:(Gm (A.map Prod.snd) (G.map Prod.fst) op (n:Int)).length<=1:=Bew _ _ _ _;generalize Hs (A.map Prod.snd) (G.map Prod.fst) (b.r1,b.r2) op (n:Int)=tk at *;generalize Gm (A.map Prod.snd) (G.map Prod.fst) op (n:Int)=lv at *;generalize Dk b.T (A.map Prod.snd) (n:Int)=g4 at *;generalize J4 b.L (n:Int)=g5 at *;obtain⟨f3,f4,f5,f6,j5,f7,tg,tc,ya,yn,yc,cl,nm,pa,pl,pc,r1,r2,lo,F,ca,cn,cc,ha,hl,hc,ma,ml,mc,la,lc,T,L⟩:=b;obtain⟨xa,xn,xc,za,zn,zc⟩:=v;simp only at f0 f1 d0 f2 b5;subst f0 f1;simp only[PBd.val,FrV.val]at c7 c8 c9 a8 ⊢;have a8:=fun Z h=>a8 ⟨tg,tc,ya,A.length,yc,F,T⟩ Z h;simp only at a8;have g6:=Bc c7;have g7:=Bc c8;have g8:=Bc c9;have g9:=Bc a8;have a5:=Bc b5;clear c7 c8 c9 a8 c6 hR hx b4 c5 b5;have d1:=U9 w (O24 f3 f4 f5 f6 G.length f7 (.p tg) T.length tc ya A.length yc cl nm pa pl pc r1 r2 lo F ca cn cc ha hl hc ma ml mc la L.length lc) (O15 pp op (n:Int)) (O23 xa xn xc za zn zc) (O23 none 0 0 none 0 0);obtain⟨J,I0,X0,R0⟩:=Ai w (O24 f3 f4 f5 f6 G.length f7 (.p tg) T.length tc ya A.length yc cl nm pa pl pc r1 r2 lo F ca cn cc ha hl hc ma ml mc la L.length lc) (O15 pp op (n:Int)) (O23 xa xn xc za zn zc) (O23 none 0 0 none 0 0);have d2:=d1.size;go_in;go_wp2_with fail;refine(Ba g9 _ d1).mono ?_;rintro e w1 ⟨v1,rfl,d3,d4,f8,D⟩;obtain⟨K,N,vc,O,Q,V⟩:=v1;have d5:=d1.trans (D.mono d2);have f9:=d5.size;have lR:=Sp (stay D R0);have d6:∀j,(Value.slice K N vc).ownBlock=some j->w.heap.size+4<=j/\j<w1.heap.size:=fun j hj=>by have:=d3.lt j hj;simp at this;omega
 have d7:∀j,(Value.slice O Q V).ownBlock=some j->w.heap.size+4<=j/\j<w1.heap.size:=fun j hj=>by have:=d4.lt j hj;simp at this;omega
 have hA:Ea (w1.alloc (O22 (.p tg) T.length tc ya A.length yc K N vc O Q V F false)) w.heap.size w1.heap.size ⟨tg,tc,ya,A.length,yc,F,T⟩ ⟨K,N,vc,O,Q,V⟩ ⟨x.locals,x.stack,false⟩:=⟨Be w1 _,Sy (Cq.alloc' d3 _) d2,Sy (Cq.alloc' d4 _) d2,⟨fun e=>by have:=(d6 _ e).2;omega,fun e=>by have:=(d7 _ e).2;omega⟩,f8,f9,(d0.below d5).below (QN _),d0.1,f2,g2,Mc⟩;have b6:=d5.alloc f9 (O22 (.p tg) T.length tc ya A.length yc K N vc O Q V F false);have fr:∀j,j<w.heap.size+4->FrV.free ⟨K,N,vc,O,Q,V⟩ w1.heap.size j:=fun j hj=>⟨Ck,fun e=>by have:=(d6 _ e).1;omega,fun e=>by have:=(d7 _ e).1;omega⟩;have t:=fr w.heap.size Ck;have z:=fr (w.heap.size+1) Ck;have l:=fr (w.heap.size+1+1+1) Ck;have U1:=Bg (stay D J) (O22 (.p tg) T.length tc ya A.length yc K N vc O Q V F false);have I1:=Bg (stay D I0) (O22 (.p tg) T.length tc ya A.length yc K N vc O Q V F false);have R1:=Bg (stay D R0) (O22 (.p tg) T.length tc ya A.length yc K N vc O Q V F false);have G1:=Bn.refl w1.heap.size (w1.alloc (O22 (.p tg) T.length tc ya A.length yc K N vc O Q V F false)) ⟨K,N,vc,O,Q,V⟩;have i0:=Bb (stay D I0) 0;have i1:=Bb (stay D I0) 1;have i2:=Bb (stay D I0) 2;have j6:=Sp (stay D I0);simp at i0 i1 i2;have m0:=Bb (stay D J) 0;have m1:=Bb (stay D J) 1;have m2:=Bb (stay D J) 2;have m3:=Bb (stay D J) 3;have m4:=Bb (stay D J) 4;have m5:=Bb (stay D J) 5;have m6:=Bb (stay D J) 6;have m7:=Bb (stay D J) 7;have m8:=Bb (stay D J) 8;have m9:=Bb (stay D J) 9;have b7:=Bb (stay D J) 10;have b8:=Bb (stay D J) 11;have b9:=Bb (stay D J) 12;have c0:=Bb (stay D J) 13;have c1:=Bb (stay D J) 14;have j7:=Sp (stay D J);simp at m0 m1 m2 m3 m4 m5 m6 m7 m8 m9 b7 b8 b9 c0 c1;clear d6 d7 fr d3 d4 f8 D;by_cases B:op=2
 case' pos =>
  subst B;have a3:PB=Ew (Va F (n:Int) ⟨x.locals,x.stack,false⟩):=by rw[<- Ba a5];simp
  go_wp2_with fail;refine(Bm2 (w1.alloc (O22 (.p tg) T.length tc ya A.length yc K N vc O Q V F false)) _ _ _ _ _ n hA (by first|omega|(simp only;omega))).mono ?_
  rintro e w2 ⟨rfl,v2,Y,f⟩;have G2:=G1.trans f;have U2:=f.stay t U1;have I2:=f.stay z I1;have R2:=f.stay l R1;replace t:=f.free t (Sp U1);replace z:=f.free z (Sp I1);replace l:=f.free l (Sp R1);have hE:=Y;have GE:=G2;have RE:=R2
 rotate_left
 have n2:(op==2)=false:=Fr;have o2:=B;clear B;by_cases B:op=3
 case' pos =>
  subst B;have a3:PB=Ew (To (n:Int) ⟨x.locals,x.stack,false⟩):=by rw[<- Ba a5];simp
  go_wp2_with fail;refine Qm (Bi6 (w1.alloc (O22 (.p tg) T.length tc ya A.length yc K N vc O Q V F false)) _ _ _ _ _ n hA hn) ?_;rintro w2 ⟨v2,Y,f⟩;have G2:=G1.trans f;have U2:=f.stay t U1;have I2:=f.stay z I1;have R2:=f.stay l R1;replace t:=f.free t (Sp U1);replace z:=f.free z (Sp I1);replace l:=f.free l (Sp R1);have hE:=Y;have GE:=G2;have RE:=R2
 rotate_left
 have n3:(op==3)=false:=Fr;have o3:=B;clear B;by_cases B:op=4
 case' pos =>
  subst B;have a3:PB=Ew ((Bj ⟨x.locals,x.stack,false⟩).2):=by rw[<- Ba a5];simp
  go_wp2_with fail;refine Qm (L8 (w1.alloc (O22 (.p tg) T.length tc ya A.length yc K N vc O Q V F false)) _ _ _ _ _ hA) ?_;rintro w2 ⟨v2,Y,f⟩;have G2:=G1.trans f;have U2:=f.stay t U1;have I2:=f.stay z I1;have R2:=f.stay l R1;replace t:=f.free t (Sp U1);replace z:=f.free z (Sp I1);replace l:=f.free l (Sp R1);have hE:=Y;have GE:=G2;have RE:=R2
 rotate_left
 have n4:(op==4)=false:=Fr;have o4:=B;clear B;by_cases B:op=5
 case' pos =>
  subst B;have a3:PB=Ew (Ed F (Bj ⟨x.locals,x.stack,false⟩).1 (Ed F (Bj ⟨x.locals,x.stack,false⟩).1 (Bj ⟨x.locals,x.stack,false⟩).2)):=by rw[<- Ba a5];simp[Bel]
  go_wp2_with fail;refine Qm (L8 (w1.alloc (O22 (.p tg) T.length tc ya A.length yc K N vc O Q V F false)) _ _ _ _ _ hA) ?_;rintro w2 ⟨v2,Y,f⟩;have G2:=G1.trans f;have U2:=f.stay t U1;have I2:=f.stay z I1;have R2:=f.stay l R1;replace t:=f.free t (Sp U1);replace z:=f.free z (Sp I1);replace l:=f.free l (Sp R1);have d8:=Yk ⟨x.locals,x.stack,false⟩;simp only at d8;have a1:=Y.new (Bru _);have A0:=Be w2 (O7 (Bj ⟨x.locals,x.stack,false⟩).1.1 (Bj ⟨x.locals,x.stack,false⟩).1.2);have h3:=Y.alloc (O7 (Bj ⟨x.locals,x.stack,false⟩).1.1 (Bj ⟨x.locals,x.stack,false⟩).1.2);have G3:=G2.alloc (O7 (Bj ⟨x.locals,x.stack,false⟩).1.1 (Bj ⟨x.locals,x.stack,false⟩).1.2);have U3:=Bg U2 (O7 (Bj ⟨x.locals,x.stack,false⟩).1.1 (Bj ⟨x.locals,x.stack,false⟩).1.2);have I3:=Bg I2 (O7 (Bj ⟨x.locals,x.stack,false⟩).1.1 (Bj ⟨x.locals,x.stack,false⟩).1.2);have R3:=Bg R2 (O7 (Bj ⟨x.locals,x.stack,false⟩).1.1 (Bj ⟨x.locals,x.stack,false⟩).1.2);go_wp2_with fail;refine Qm (Nd _ _ _ _ _ _ (Bj ⟨x.locals,x.stack,false⟩).1.1 (Bj ⟨x.locals,x.stack,false⟩).1.2 h3 Ck) ?_;rintro w4 ⟨v4,h4,C⟩;have G4:=G3.trans C;have U4:=C.stay t U3;have I4:=C.stay z I3;have R4:=C.stay l R3;replace t:=C.free t (Sp U3);replace z:=C.free z (Sp I3);replace l:=C.free l (Sp R3);have A4:=C.stay a1 A0;replace a1:=C.free a1 (Sp A0);obtain⟨y0,y1⟩:=cl2 A4;have ly:=Sp A4;simp at y0 y1;have h0:=Bba F ((Bj ⟨x.locals,x.stack,false⟩).1.1,(Bj ⟨x.locals,x.stack,false⟩).1.2) (Bj ⟨x.locals,x.stack,false⟩).2;go_wp2_with fail;refine(Nd _ _ _ _ _ _ (Bj ⟨x.locals,x.stack,false⟩).1.1 (Bj ⟨x.locals,x.stack,false⟩).1.2 h4 (by first|omega|(simp only;omega))).mono ?_
  rintro e w5 ⟨rfl,v5,h5,a0⟩;have G5:=G4.trans a0;have U5:=a0.stay t U4;have I5:=a0.stay z I4;have R5:=a0.stay l R4;replace t:=a0.free t (Sp U4);replace z:=a0.free z (Sp I4);replace l:=a0.free l (Sp R4);have hE:=h5;have GE:=G5;have RE:=R5
 rotate_left
 have n5:(op==5)=false:=Fr;have o5:=B;clear B;by_cases B:op=6
 case' pos =>
  subst B;have a3:PB=Ew (Ed F (Bj (Bj ⟨x.locals,x.stack,false⟩).2).1 (Ed F (Bj ⟨x.locals,x.stack,false⟩).1 (Bj (Bj ⟨x.locals,x.stack,false⟩).2).2)):=by rw[<- Ba a5];simp[Baf]
  go_wp2_with fail;refine Qm (L8 (w1.alloc (O22 (.p tg) T.length tc ya A.length yc K N vc O Q V F false)) _ _ _ _ _ hA) ?_;rintro w2 ⟨v2,Y,f⟩;have G2:=G1.trans f;have U2:=f.stay t U1;have I2:=f.stay z I1;have R2:=f.stay l R1;replace t:=f.free t (Sp U1);replace z:=f.free z (Sp I1);replace l:=f.free l (Sp R1);have d8:=Yk ⟨x.locals,x.stack,false⟩;simp only at d8;have a1:=Y.new (Bru _);have A0:=Be w2 (O7 (Bj ⟨x.locals,x.stack,false⟩).1.1 (Bj ⟨x.locals,x.stack,false⟩).1.2);have h3:=Y.alloc (O7 (Bj ⟨x.locals,x.stack,false⟩).1.1 (Bj ⟨x.locals,x.stack,false⟩).1.2);have G3:=G2.alloc (O7 (Bj ⟨x.locals,x.stack,false⟩).1.1 (Bj ⟨x.locals,x.stack,false⟩).1.2);have U3:=Bg U2 (O7 (Bj ⟨x.locals,x.stack,false⟩).1.1 (Bj ⟨x.locals,x.stack,false⟩).1.2);have I3:=Bg I2 (O7 (Bj ⟨x.locals,x.stack,false⟩).1.1 (Bj ⟨x.locals,x.stack,false⟩).1.2);have R3:=Bg R2 (O7 (Bj ⟨x.locals,x.stack,false⟩).1.1 (Bj ⟨x.locals,x.stack,false⟩).1.2);go_wp2_with fail;refine Qm (L8 _ _ _ _ _ _ h3) ?_;rintro w4 ⟨v4,h4,C⟩;have G4:=G3.trans C;have U4:=C.stay t U3;have I4:=C.stay z I3;have R4:=C.stay l R3;replace t:=C.free t (Sp U3);replace z:=C.free z (Sp I3);replace l:=C.free l (Sp R3);have A4:=C.stay a1 A0;replace a1:=C.free a1 (Sp A0);have h0:=Yk (Bj ⟨x.locals,x.stack,false⟩).2;have d9:=h4.new (Bru _);have C0:=Be w4 (O7 (Bj (Bj ⟨x.locals,x.stack,false⟩).2).1.1 (Bj (Bj ⟨x.locals,x.stack,false⟩).2).1.2);have h5:=h4.alloc (O7 (Bj (Bj ⟨x.locals,x.stack,false⟩).2).1.1 (Bj (Bj ⟨x.locals,x.stack,false⟩).2).1.2);have G5:=G4.alloc (O7 (Bj (Bj ⟨x.locals,x.stack,false⟩).2).1.1 (Bj (Bj ⟨x.locals,x.stack,false⟩).2).1.2);have U5:=Bg U4 (O7 (Bj (Bj ⟨x.locals,x.stack,false⟩).2).1.1 (Bj (Bj ⟨x.locals,x.stack,false⟩).2).1.2);have I5:=Bg I4 (O7 (Bj (Bj ⟨x.locals,x.stack,false⟩).2).1.1 (Bj (Bj ⟨x.locals,x.stack,false⟩).2).1.2);have R5:=Bg R4 (O7 (Bj (Bj ⟨x.locals,x.stack,false⟩).2).1.1 (Bj (Bj ⟨x.locals,x.stack,false⟩).2).1.2);have A9:=Bg A4 (O7 (Bj (Bj ⟨x.locals,x.stack,false⟩).2).1.1 (Bj (Bj ⟨x.locals,x.stack,false⟩).2).1.2);obtain⟨y0,y1⟩:=cl2 A9;have ly:=Sp A9;simp at y0 y1;go_wp2_with fail;refine Qm (Nd _ _ _ _ _ _ (Bj ⟨x.locals,x.stack,false⟩).1.1 (Bj ⟨x.locals,x.stack,false⟩).1.2 h5 Ck) ?_;rintro w6 ⟨v6,h6,I⟩;have G6:=G5.trans I;have U6:=I.stay t U5;have I6:=I.stay z I5;have R6:=I.stay l R5;replace t:=I.free t (Sp U5);replace z:=I.free z (Sp I5);replace l:=I.free l (Sp R5);have A6:=I.stay a1 A9;replace a1:=I.free a1 (Sp A9);have C6:=I.stay d9 C0;replace d9:=I.free d9 (Sp C0);clear y0 y1 ly;obtain⟨y0,y1⟩:=cl2 C6;have ly:=Sp C6;simp at y0 y1;have j8:=Bba F ((Bj ⟨x.locals,x.stack,false⟩).1.1,(Bj ⟨x.locals,x.stack,false⟩).1.2) (Bj (Bj ⟨x.locals,x.stack,false⟩).2).2;go_wp2_with fail;refine(Nd _ _ _ _ _ _ (Bj (Bj ⟨x.locals,x.stack,false⟩).2).1.1 (Bj (Bj ⟨x.locals,x.stack,false⟩).2).1.2 h6 (by first|omega|(simp only;omega))).mono ?_
  rintro e w7 ⟨rfl,v7,h7,a6⟩;have G7:=G6.trans a6;have U7:=a6.stay t U6;have I7:=a6.stay z I6;have R7:=a6.stay l R6;replace t:=a6.free t (Sp U6);replace z:=a6.free z (Sp I6);replace l:=a6.free l (Sp R6);have hE:=h7;have GE:=G7;have RE:=R7
 rotate_left
 have n6:(op==6)=false:=Fr;have o6:=B;clear B;by_cases B:op=15
 case' pos =>
  subst B;have a3:PB=Ew (Ed F (4,pp) (K5 (4,pp) (0,0) ⟨x.locals,x.stack,false⟩)):=by rw[<- Ba a5];simp
  go_wp2_with fail;refine Qm (Bc1 pp _) ?_;intro w2 a9;have Y:=hA.below a9;have G2:=G1.trans (Bn.of_below _ a9);have U2:=stay a9 U1;have I2:=stay a9 I1;have R2:=stay a9 R1;go_wp2_with fail;refine Qm (Vr _) ?_;intro w3 b0;have h3:=Y.below b0;have G3:=G2.trans (Bn.of_below _ b0);have U3:=stay b0 U2;have I3:=stay b0 I2;have R3:=stay b0 R2;go_wp2_with fail;refine Qm (Aj _ _ _ _ _ _ 4 pp 0 0 h3) ?_;rintro w4 ⟨v4,h4,C⟩;have G4:=G3.trans C;have U4:=C.stay t U3;have I4:=C.stay z I3;have R4:=C.stay l R3;replace t:=C.free t (Sp U3);replace z:=C.free z (Sp I3);replace l:=C.free l (Sp R3);obtain⟨j0,j1,j2⟩:=cl3 I4;have lj:=Sp I4;simp at j0 j1 j2;go_wp2_with fail;refine Qm (Bc1 pp _) ?_;intro w5 b1;have h5:=h4.below b1;have G5:=G4.trans (Bn.of_below _ b1);have U5:=stay b1 U4;have I5:=stay b1 I4;have R5:=stay b1 R4;go_wp2_with fail;refine Qm (Nd _ _ _ _ _ _ 4 pp h5 (by simp[K5,Jl];omega)) ?_;rintro w6 ⟨v6,h6,I⟩;have G6:=G5.trans I;have U6:=I.stay t U5;have I6:=I.stay z I5;have R6:=I.stay l R5;replace t:=I.free t (Sp U5);replace z:=I.free z (Sp I5);replace l:=I.free l (Sp R5);have hE:=h6;have GE:=G6;have RE:=R6
 rotate_left
 have j9:(op==15)=false:=Fr;have h1:=B;clear B;by_cases B:op=16
 case' pos =>
  subst B;have a3:PB=Ew (W5 T g4 g5 (n:Int) ⟨x.locals,x.stack,false⟩):=by rw[<- Ba a5];simp
  go_wp2_with fail;refine Qm (Ba g8 _ _ _ _ (w1.alloc (O22 (.p tg) T.length tc ya A.length yc K N vc O Q V F false)) b6 hA) ?_;rintro w2 ⟨v2,Y,f⟩;have G2:=G1.trans f;have U2:=f.stay t U1;have I2:=f.stay z I1;have R2:=f.stay l R1;replace t:=f.free t (Sp U1);replace z:=f.free z (Sp I1);replace l:=f.free l (Sp R1);have hE:=Y;have GE:=G2;have RE:=R2
 rotate_left
 have k0:(op==16)=false:=Fr;have h8:=B;clear B
 case' neg =>
  have a3:PB=Ew (Gi F lv (Ga T tk ⟨x.locals,x.stack,false⟩)):=by rw[<- Ba a5];simp[o2,o3,o4,o5,o6,h1,h8]
  go_wp2_with fail;refine(Ba g6 _ b6).mono ?_;rintro e w2 ⟨a2,c2,rfl,h9,i3,b2⟩;have i4:TyF w2 w1.heap.size ⟨K,N,vc,O,Q,V⟩ a2 tk.length c2 tk:=⟨h9,fun g o e=>(i3 g o e).elim (fun hg=>hA.new hg) (fun hg=>hA.low hg)⟩;have Y:=hA.below b2;have G2:=G1.trans (Bn.of_below _ b2);have U2:=stay b2 U1;have I2:=stay b2 I1;have R2:=stay b2 R1;go_wp2_with fail;refine Qm (Rj _ _ _ _ _ _ a2 tk.length c2 tk Y i4 Ck) ?_;rintro w3 ⟨v3,h3,a7⟩;have G3:=G2.trans a7;have U3:=a7.stay t U2;have I3:=a7.stay z I2;have R3:=a7.stay l R2;replace t:=a7.free t (Sp U2);replace z:=a7.free z (Sp I2);replace l:=a7.free l (Sp R2);clear m0 m1 m2 m3 m4 m5 m6 m7 m8 m9 b7 b8 b9 c0 c1 i0 i1 i2;obtain⟨m0,m1,m2,m3,m4,m5,m6,m7,m8,m9,b7,b8,b9,c0,c1⟩:=Tk U3;have G:=Sp U3;simp at m0 m1 m2 m3 m4 m5 m6 m7 m8 m9 b7 b8 b9 c0 c1;obtain⟨j0,j1,j2⟩:=cl3 I3;have lj:=Sp I3;simp at j0 j1 j2;have i5:=b6.trans (G3.low hA);go_wp2_with fail;refine(Ba g7 _ i5).mono ?_;rintro e w4 ⟨a4,c4,rfl,i6,i7,b3⟩;have i8:TyF w4 w1.heap.size v3 a4 lv.length c4 lv:=⟨i6,fun g o e=>(i7 g o e).elim (fun hg=>h3.new hg) (fun hg=>h3.low hg)⟩;have h4:=h3.below b3;have G4:=G3.trans (Bn.of_below _ b3);have U4:=stay b3 U3;have I4:=stay b3 I3;have R4:=stay b3 R3;have k1:(Ga T tk ⟨x.locals,x.stack,false⟩).st.length<=1000:=Br5 (Zd _ _ _ _) g3;go_wp2_with fail;refine(Bdq _ _ _ _ _ _ a4 lv.length c4 lv h4 i8 (by first|omega|(simp only;omega))).mono ?_
  rintro e w5 ⟨rfl,v5,h5,a0⟩;have G5:=G4.trans a0;have U5:=a0.stay t U4;have I5:=a0.stay z I4;have R5:=a0.stay l R4;replace t:=a0.free t (Sp U4);replace z:=a0.free z (Sp I4);replace l:=a0.free l (Sp R4);have hE:=h5;have GE:=G5;have RE:=R5
 all_goals
  go_wp2_with fail;refine(Ky _ _ _ _ _ _ hE).mono ?_;rintro e k2 ⟨u,rfl,hu,i9,g0⟩;obtain⟨ua,un,uc,da,dn,dc⟩:=u;have c3:=g0.stay l RE;obtain⟨z0,z1⟩:=cl2 c3;obtain⟨q0,q1⟩:=fr2 c3;have lr:=Sp c3;simp at z0 z1;have g1:=b6.trans ((GE.trans g0).low hA);have k3:=g1.size;simp only[FrV.val];go_wp2_with fail;refine tb (.tuple #[.agg #[.s ua un uc,.s da dn dc],.bool PB.isSome]) (by simp[results,results221,go_sem,z0,z1,lr,a3]) ?_;refine⟨⟨ua,un,uc,da,dn,dc⟩,rfl,fun y hy=>?_,(g1.setCell Fr _).setCell Fr _⟩;rw[a3]at hy;obtain⟨e1,rfl⟩:=hu y hy;rw[e1];exact i9.frame.set2 c3 _ _
end Go.Proofs.YtpcgnjolfahacaaGreat
