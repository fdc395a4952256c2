/- the proof's parts -/
import Derived.Test.YtpcgnjolfahacaaGreatPk03
set_option maxRecDepth 100000
set_option maxHeartbeats 40000000
set_option linter.unusedVariables false
set_option linter.unusedSimpArgs false
set_option linter.defProp false
namespace Go.Proofs.YtpcgnjolfahacaaGreat
open Go.RowKit Go.Proofs.Tryz
def Dy.set{w:TW}{u b i:Nat}{z:TI}(h:Dy w u z)(f:b≠u)(c:TX):Dy (w.setCell (.a b i) c) u z :=
 ⟨by simpa[World.setCell] using h.1,fun j m=>by rw[Bu2 _ _ _ _ (by intro e;exact f (congrArg Addr.block e))];exact h.2 j m⟩
def Bn2(A B:TA)(C D:Nat)(b:List (Rd.Cls×Value))(f:List (Rd.Mth×Ex))(L:Nat)(w:TW) (c5:f.length<=6)(b6:b.length<=6)(c6:∀p∈b,p.1.fields.length<=1000)(c7:Fh w L (.s A b.length C) b)(c8:Eb w L (.s B f.length D) f)(b7:∀p∈f,Rz p.1):Calls prog 68 #[.agg #[.s A b.length C,.s B f.length D]] w fun e c => e=.r (.agg #[.i (Lo ⟨b.map Prod.fst,f.map Prod.fst⟩).1,.i (Lo ⟨b.map Prod.fst,f.map Prod.fst⟩).2.1,.i (Lo ⟨b.map Prod.fst,f.map Prod.fst⟩).2.2])/\Bl w c:=by
 have a9:∀c,Bl w c->Fh c L (.s A b.length C) b:=fun c h=>c7.kp (Kp.of_below (e:=none) h) Fm Fm;have b8:∀c,Bl w c->Eb c L (.s B f.length D) f:=fun c h=>c8.kp (Kp.of_below (e:=none) h) Fm Fm Fm Fm Fm;have b9:=fun c (h:Bl w c)=>Bcd A B b.length C f.length D L b c b6 c6 (a9 c h);have c9:=fun c (h:Bl w c)=>Sf A B b.length C f.length D L b c b6 (a9 c h);have d0:(Tr.tree (b.map Prod.fst)).length<=1000:=by rw[Ie];simp;omega
 have d1:=fun ya yn yc g j c (h:Bl w c) F=>Bfb (ya:=ya) (yn:=yn) (yc:=yc) A B b.length C D f (Tr.tree (b.map Prod.fst)) g j L c d0 F c5 (b8 c h) (fun p hp=>by have:=(b7 p hp).ps;omega);have b0:=fun ya yn yc g j c (h:Bl w c) F=>Bdv (ya:=ya) (yn:=yn) (yc:=yc) A B C D b f (Tr.tree (b.map Prod.fst)) g j L c d0 F c5 b6 c6 (a9 c h) (b8 c h) b7;have d2:(f.map fun p=>p.1.cl)=(f.map Prod.fst).map Rd.Mth.cl:=Hd;rw[d2]at b0;generalize m:Lo ⟨b.map Prod.fst,f.map Prod.fst⟩=R;unfold Lo Vb at m;simp only at m;generalize Tr.tree (b.map Prod.fst)=T at *;generalize Tr.inCl T 0 (b.map Prod.fst)=ic at *;generalize Gn T (Cd.fieldSum (b.map Prod.fst):Int) ((f.map Prod.fst).map Rd.Mth.cl) 0 (f.map Prod.fst)=bo at *;generalize d8:Iu T (f.map Prod.fst) 0 (f.map Prod.fst)=hd at *;obtain⟨i1,G⟩:=ic;obtain⟨b1,b2,b3⟩:=bo;obtain⟨R1,R2,R3⟩:=R;simp only at b9 b0 m;have c2:=Bc b9;have d3:=Bc c9;have a0:=Bc d1;have d9:=Bc b0;clear b9 c9 d1 b0 a9 b8 c7 c8 d2 d8 b7;have N:=Bu w (O1 A b.length C B f.length D) (O8 0 0 0);have C0:=Cb w (O1 A b.length C B f.length D) (O8 0 0 0);have D0:=Bx w (O1 A b.length C B f.length D) (O8 0 0 0);by_cases h1:i1=0
 ·subst h1;rw[Pk Hd]at m;by_cases h2:0<=hd;·rw[Th h2]at m;have HE:=Bc m;have a2:Vc hd=(4,hd):=Th h2;rw[a2]at a0;simp only at a0;clear m a2 h2;go_in;go_wp2_with fail;refine Qm (Ba c2 _ N) ?_;intro l q;have O:=(QB N q);have I:=stay q C0;have v:=stay q D0;have b4:=O.size;have f0:=Sp v;obtain⟨x0,x1⟩:=cl2 I;have l1:=Sp I;simp at x0 x1;have J:=O.alloc b4 (O8 0 G 0);have a3:=Bg I (O8 0 G 0);have a4:=Bg v (O8 0 G 0);have a5:=Be l (O8 0 G 0);clear C0 D0 N q;go_wp2_with fail;refine(Ba d3 _ J).mono ?_;rintro e w2 ⟨g,j,ya,yn,yc,rfl,F,-,-,z⟩;have a6:=J.trans (z.mono J.size);have Q:=stay z a3;have D2:=stay z a4;have E2:=stay z a5;have c3:=a6.size;obtain⟨y0,y1⟩:=cl2 Q;have l2:=Sp Q;simp at y0 y1;have K:=a6.alloc c3 (O2 (.p g) T.length j ya yn yc);have a7:=Bg D2 (O2 (.p g) T.length j ya yn yc);have a8:=Bg E2 (O2 (.p g) T.length j ya yn yc);clear x0 x1 l1 I v a3 a4 a5 J z;go_wp2_with fail;refine Qm (Ba a0 ya yn yc g j _ K (F.alloc _)) ?_;intro w3 t;have a1:=K.trans (t.mono K.size);have D3:=stay t a7;have E3:=stay t a8;have f1:=a1.size;have lE:=Sp E3;have lD:=Sp D3;obtain⟨e0,e1,e2⟩:=cl3 E3;obtain⟨g0,g1,g2⟩:=fr3 E3;obtain⟨V,Y,Z⟩:=cl3 D3;obtain⟨q0,q1,q2⟩:=fr3 D3;simp at e0 e1 e2 V Y Z;clear y0 y1 l2 Q D2 E2 a7 a8 K t;have f2:l.heap.size≠w.heap.size+1:=Ck;have b5:w.heap.size+1≠l.heap.size:=Ck;go_wp2_with fail;refine tb (.agg #[.i 4,.i hd,.i 0]) (by simp[results,Bwr,go_sem,V,Y,Z]) ?_;have e:=Ba HE;simp only[Prod.mk.injEq]at e;obtain⟨rfl,rfl,rfl⟩:=e;exact⟨rfl,(((((a1.setCell Fr _).setCell Fr _).setCell Fr _).setCell Hd _).setCell Hd _).setCell Hd _⟩
  rw[Pk h2]at m;have HE:=Bc m;have a2:Vc hd=(0,0):=Pk h2;rw[a2]at a0;simp only at a0;clear m a2 h2;go_in;go_wp2_with fail;refine Qm (Ba c2 _ N) ?_;intro l q;have O:=(QB N q);have I:=stay q C0;have v:=stay q D0;have b4:=O.size;have f0:=Sp v;obtain⟨x0,x1⟩:=cl2 I;have l1:=Sp I;simp at x0 x1;have J:=O.alloc b4 (O8 0 G 0);have a3:=Bg I (O8 0 G 0);have a4:=Bg v (O8 0 G 0);have a5:=Be l (O8 0 G 0);clear C0 D0 N q;go_wp2_with fail;refine(Ba d3 _ J).mono ?_;rintro e w2 ⟨g,j,ya,yn,yc,rfl,F,-,f3,z⟩;have a6:=J.trans (z.mono J.size);have Q:=stay z a3;have D2:=stay z a4;have E2:=stay z a5;have c3:=a6.size;obtain⟨y0,y1⟩:=cl2 Q;have l2:=Sp Q;simp at y0 y1;have K:=a6.alloc c3 (O2 (.p g) T.length j ya yn yc);have d4:=Bg Q (O2 (.p g) T.length j ya yn yc);have d5:=Be w2 (O2 (.p g) T.length j ya yn yc);have a7:=Bg D2 (O2 (.p g) T.length j ya yn yc);have a8:=Bg E2 (O2 (.p g) T.length j ya yn yc);have f7:l.heap.size<w2.heap.size:=Sp E2;clear x0 x1 l1 I v a3 a4 a5 J z;go_wp2_with fail;refine Qm (Ba a0 ya yn yc g j _ K (F.alloc _)) ?_;intro w3 t;have a1:=K.trans (t.mono K.size);have D3:=stay t a7;have E3:=stay t a8;have f1:=a1.size;have lE:=Sp E3;have lD:=Sp D3;obtain⟨e0,e1,e2⟩:=cl3 E3;obtain⟨g0,g1,g2⟩:=fr3 E3;simp at e0 e1 e2;have C3:=stay t d4;have T3:=stay t d5;have lC:=Sp C3;have lT:=Sp T3;obtain⟨c0,c1⟩:=cl2 C3;obtain⟨t0,t1⟩:=cl2 T3;simp at c0 c1 t0 t1;have d6:=(F.alloc (O2 (.p g) T.length j ya yn yc)).below t;clear y0 y1 l2 Q D2 E2 a7 a8 d4 d5 K t;have f2:l.heap.size≠w.heap.size+1:=Ck;have b5:w.heap.size+1≠l.heap.size:=Ck;have f8:w2.heap.size≠l.heap.size:=Ck;have c4:l.heap.size≠g:=by simp at f3;omega
  have f4:=((d6.set (i:=0) c4 (.i 0)).set (i:=1) c4 (.i 0)).set (i:=2) c4 (.i 0);have d7:=((a1.setCell (p:=.a l.heap.size 0) Fr (.i 0)).setCell (p:=.a l.heap.size 1) Fr (.i 0)).setCell (p:=.a l.heap.size 2) Fr (.i 0);have D4:(((w3.setCell (.a l.heap.size 0) (.i 0)).setCell (.a l.heap.size 1) (.i 0)).setCell (.a l.heap.size 2) (.i 0)).heap[w.heap.size+1]?=some (O8 0 0 0):=by
   rw[Brk _ _ _ _ (by simpa using b5),Brk _ _ _ _ (by simpa using b5),Brk _ _ _ _ (by simpa using b5)];exact D3
  clear D3 d6 F a1;go_wp2_with fail;refine Qb (Ba d9 ya yn yc g j _ d7 f4) d7 ?_;intro w5 f5 f6;have D5:=stay f5 D4;obtain⟨V,Y,Z⟩:=cl3 D5;obtain⟨q0,q1,q2⟩:=fr3 D5;simp at V Y Z;go_wp2_with fail;refine tb (.agg #[.i b1,.i b2,.i b3]) (by simp[results,Bwr,go_sem,V,Y,Z]) ?_;have e:=Ba HE;simp only[Prod.mk.injEq]at e;obtain⟨rfl,rfl,rfl⟩:=e;exact⟨rfl,((f6.setCell Hd _).setCell Hd _).setCell Hd _⟩
 rw[Th h1]at m;have HE:=Bc m;have f9:(i1 != 0)=true:=by simpa using h1
 clear m h1;go_in;go_wp2_with fail;refine Qm (Ba c2 _ N) ?_;intro l q;have O:=(QB N q);have v:=stay q D0;have b4:=O.size;have lD:=Sp v;obtain⟨V,Y,Z⟩:=cl3 v;obtain⟨q0,q1,q2⟩:=fr3 v;simp at V Y Z;go_wp2_with fail;refine tb (.agg #[.i i1,.i G,.i 0]) (by simp[results,Bwr,go_sem,V,Y,Z,lD]) ?_;have e:=Ba HE;simp only[Prod.mk.injEq]at e;obtain⟨rfl,rfl,rfl⟩:=e;exact⟨rfl,(((O.setCell Hd _).setCell Hd _).setCell Hd _).alloc Fr _⟩
def Bdp{α β:Type}{l:List (α×β)}{r:List α}(h:l.map Prod.fst=r){P:α->Prop}(b:∀x∈r,P x):∀p∈l,P p.1:=by
 intro p c;refine b p.1 ?_;rw[<- h];exact Bsc c
def Bfl{z:TI}{c:Int}{b:TI}:∀(l:List Rd.Mth) (k:Nat),(Gn z c b k l).1=0->Gn z c b k l=(0,0,0):=by
 intro l
 induction l with
 | nil=>intro k _;rfl
 | cons m r ih =>
  intro k h;unfold Gn at h ⊢;by_cases e:(Mt z c b m).1≠0;·rw[Th e]at h;exact absurd h e
  rw[Pk e]at h ⊢;exact ih _ h
def Bkw(f:Rd.Fil)(h:(Lo f).1=0):Lo f=(0,0,0):=by
 unfold Lo at h ⊢;by_cases b:(Tr.inCl (Tr.tree f.classes) 0 f.classes).1≠0;·rw[Th b]at h;exact absurd h b
 rw[Pk b]at h ⊢;unfold Vb at h ⊢;by_cases c:0<=Iu (Tr.tree f.classes) f.methods 0 f.methods;·rw[Th c]at h;simp at h
 rw[Pk c]at h ⊢;exact Bfl _ _ h
def Bi8(s:ByteArray)(w:TW)(hs:s.size<=maxLen):Calls prog 45 #[.string s] w fun e w' => ∃f Q g j V l,e=.r (.tuple #[.agg #[.s f Q g,.s j V l],.agg #[.i (Gx s.data.toList).1,.i (Gx s.data.toList).2.1,.i (Gx s.data.toList).2.2]])/\((Gx s.data.toList).1=0->∃b c,b.map Prod.fst=(Rd.read s.data.toList).1.classes/\Fh w' w.heap.size (.s f Q g) b/\c.map Prod.fst=(Rd.read s.data.toList).1.methods/\Eb w' w.heap.size (.s j V l) c)/\Bl w w':=by
 have a0:=fun w=>Bmb s w hs;obtain⟨c5,a3⟩:=Yo s.data.toList;obtain⟨c6,a4⟩:=Aw s.data.toList;have a5:(Gx s.data.toList).1=0->Gx s.data.toList=(0,0,0):=by
  intro h;unfold Gx at h ⊢;by_cases m:(Rd.read s.data.toList).2≠0;·rw[Th m]at h;exact absurd h m
  rw[Pk m]at h ⊢;exact Bkw _ h
 generalize t:Gx s.data.toList=P at *;unfold Gx at t;generalize Rd.read s.data.toList=q at *;obtain⟨⟨cs,ms⟩,er⟩:=q;obtain⟨P1,P2,P3⟩:=P;simp only[Prod.mk.injEq]at a0 c5 a3 c6 a4 t a5 ⊢;have b3:=Bc a5;clear a5;have b4:=Bc a0;have c7:=Bc a3;have c8:=Bc a4;clear a0 a3 a4;have a6:=Bu w (O1 none 0 0 none 0 0) (O8 0 0 0);have C0:=Cb w (O1 none 0 0 none 0 0) (O8 0 0 0);have D0:=Bx w (O1 none 0 0 none 0 0) (O8 0 0 0);by_cases m:er=0
 ·subst m;rw[Pk Hd]at t;have HP:=Bc t;clear t;go_in;go_wp2_with fail;refine(Ba b4 _).mono ?_;rintro e p ⟨f,Q,g,j,V,l,rfl,⟨b,J,a7⟩,⟨c,K,a8⟩,v⟩;obtain⟨xa,xc,L⟩:=Bh a7.1;simp only[Value.slice.injEq]at L;obtain⟨rfl,rfl,rfl⟩:=L;obtain⟨xa,xc,L⟩:=Bh a8.1;simp only[Value.slice.injEq]at L;obtain⟨rfl,rfl,rfl⟩:=L;have N:=QB a6 v;have b5:=N.size;have z:=stay v C0;have A:=stay v D0;have lC:=Sp z;have lD:=Sp A;have b6:Fh p (w.heap.size+1+1) (.s f b.length g) b:=by simpa using a7
  have b7:Eb p (w.heap.size+1+1) (.s j c.length l) c:=by simpa using a8
  have a9:Kp none (w.heap.size+1+1) p (p.alloc (O1 f b.length g j c.length l)):=Kp.alloc _ _;have b0:=Bn2 f j g l b c (w.heap.size+1+1) (p.alloc (O1 f b.length g j c.length l))
   (by have:=congrArg List.length K;simp at this;omega) (by have:=congrArg List.length J;simp at this;omega) (Bdp J (Ba c8)) (b6.kp a9 Fm Fm) (b7.kp a9 Fm Fm Fm Fm Fm) (Bdp K (Ba c7))
  rw[J,K,Ba HP]at b0;have c9:=Bc b0;have b1:=N.alloc b5 (O1 f b.length g j c.length l);have b8:=Bg z (O1 f b.length g j c.length l);have b9:=Bg A (O1 f b.length g j c.length l);have c0:=Be p (O1 f b.length g j c.length l);clear b0 a7 a8 v C0 D0 a6 z A a9;go_wp2_with fail;refine Qm (Ba c9) ?_;intro w2 B;have b2:=b1.trans (B.mono b1.size);have C2:=stay B b8;have D2:=stay B b9;have E2:=stay B c0;have c3:=(b6.kp (Kp.alloc (e:=none) p (O1 f b.length g j c.length l)) Fm Fm).kp (Kp.of_below (e:=none) B) Fm Fm;have c4:=(b7.kp (Kp.alloc (e:=none) p (O1 f b.length g j c.length l)) Fm Fm Fm Fm Fm).kp (Kp.of_below (e:=none) B) Fm Fm Fm Fm Fm;have d0:=b2.size;have Y:=Sp C2;have Z:=Sp D2;have d1:=Sp E2;obtain⟨x0,x1⟩:=cl2 E2;obtain⟨C,D⟩:=cl2 C2;obtain⟨F,G,I⟩:=cl3 D2;obtain⟨p0,p1⟩:=fr2 C2;obtain⟨q0,q1,q2⟩:=fr3 D2;simp at x0 x1 C D F G I;clear b8 b9 c0 b1 B;by_cases O:P1=0
  ·obtain⟨-,rfl,rfl⟩:=Ba b3 O;subst O;go_wp2_with fail;refine tb (.tuple #[.agg #[.s f b.length g,.s j c.length l],.agg #[.i 0,.i 0,.i 0]]) (by simp[results,Bws,go_sem,C,D,F,G,I,Y,Z]) ?_;have k1:Kp none (w.heap.size+1+1) w2 ((((((w2.setCell (.a w.heap.size 0) (.s f b.length g)).setCell (.a w.heap.size 1) (.s j c.length l)).setCell (.a (w.heap.size+1) 0) (.i 0)).setCell (.a (w.heap.size+1) 1) (.i 0)).setCell (.a (w.heap.size+1) 2) (.i 0)).alloc (O8 0 0 0)) :=
    (((((Kp.set_lo Ck _).trans (Kp.set_lo Ck _)).trans (Kp.set_lo Ck _)).trans (Kp.set_lo Ck _)).trans (Kp.set_lo Ck _)).trans (Kp.alloc _ _)
   refine⟨f,b.length,g,j,c.length,l,rfl,?_,?_⟩
   ·first|intro _;exact⟨b,c,J,(c3.kp k1 Fm Fm).mono Ck,K,(c4.kp k1 Fm Fm Fm Fm Fm).mono Ck⟩|exact⟨b,J,(c3.kp k1 Fm Fm).mono Ck,c,K,(c4.kp k1 Fm Fm Fm Fm Fm).mono Ck⟩
   exact(((((b2.setCell Hd _).setCell Hd _).setCell Hd _).setCell Hd _).setCell Hd _).alloc Fr _
  have d2:(P1 != 0)=true:=by simpa using O
  go_wp2;have H2:=Bc O;clear O
  go_region
  go_wp2_with fail;refine tb (.tuple #[.agg #[.s none 0 0,.s none 0 0],.agg #[.i P1,.i P2,.i P3]]) (by simp[results,Bws,go_sem,C,D,F,G,I,Y,Z]) ?_;refine⟨none,0,0,none,0,0,rfl,fun h=>absurd h (Ba H2),?_⟩;exact((((((b2.setCell Hd _).setCell Hd _).setCell Hd _).setCell Hd _).setCell Hd _).alloc Fr _).drew
 rw[Th m]at t;have d3:(er != 0)=true:=by simpa using m
 simp only[Prod.mk.injEq]at t;obtain⟨rfl,rfl,rfl⟩:=t;have H1:=Bc m;clear m b3;go_in;go_wp2_with fail;refine(Ba b4 _).mono ?_;rintro e p ⟨f,Q,g,j,V,l,rfl,-,-,v⟩;have N:=QB a6 v;have b5:=N.size;have z:=stay v C0;have A:=stay v D0;have Y:=Sp z;have Z:=Sp A;obtain⟨C,D⟩:=cl2 z;obtain⟨F,G,I⟩:=cl3 A;obtain⟨p0,p1⟩:=fr2 z;obtain⟨q0,q1,q2⟩:=fr3 A;simp at C D F G I;go_wp2_with fail;refine tb (.tuple #[.agg #[.s none 0 0,.s none 0 0],.agg #[.i er,.i 0,.i 0]]) (by simp[results,Bws,go_sem,C,D,F,G,I,Y,Z]) ?_;refine⟨none,0,0,none,0,0,rfl,fun h=>absurd h (Ba H1),?_⟩;exact(((((N.setCell Hd _).setCell Hd _).setCell Hd _).setCell Hd _).setCell Hd _).alloc Fr _
def TyR (w:TW)(v:TX)(l:TP):Prop :=
 (v=.slice none 0 0/\l=[])\/∃g o c cur,v=.slice (some ⟨g,o,none⟩) l.length c/\w.heap[g]?=some (.cells cur 31 (0,0))/\l.length<=c/\c<=maxLen/\∀j x,(Bp l)[j]?=some x->w.cell? ⟨g,o+j,none⟩=some x
def TyR.nil(w:TW):TyR w (.s none 0 0) []:=.inl ⟨rfl,rfl⟩
def TyR.of_tys{w:TW}{u:Nat}{l:TX}{q:TP}(h:Cq w u l q):TyR w l q:=by
 obtain⟨p,⟨e,s⟩|⟨g,t,z,e,D,f,A,B,F,C⟩⟩:=h
 ·exact .inl ⟨e,Bso s⟩
 refine .inr ⟨g,0,t,z,e,f,A,B,fun j c i=>?_⟩;have m:j<(Bp q).length:=(List.getElem?_eq_some_iff.1 i).1;rw[Brz,Bb f,<- i,<- C,Bs0,Th (by rw[p]at m;exact m)];simp
def TyR.below{w s:TW}{l:TX}{q:TP}(h:TyR w l q)(e:Bl w s):TyR s l q:=by
 rcases h with h|⟨g,o,c,f,i,b,m,t,z⟩
 ·exact .inl h
 exact .inr ⟨g,o,c,f,i,(e.block g (Sp b)).trans b,m,t,fun j x A=>by rw[e.cell (p:=.a g (o+j)) (Sp b)];exact z j x A⟩
def TyR.shape{w:TW}{l:TX}{q:TP}(h:TyR w l q):∃a c,l=.s a q.length c:=by
 rcases h with ⟨rfl,rfl⟩|⟨g,o,c,e,b,_⟩
 ·exact⟨none,0,rfl⟩
 exact⟨_,c,b⟩
def TyR.cap{w:TW}{a:TA}{n b:Nat}{q:TP}(h:TyR w (.s a n b) q):n=q.length/\q.length<=b/\b<=maxLen:=by
 rcases h with ⟨e,rfl⟩|⟨g,o,j,m,f,_,e,i,_⟩
 ·simp only[Value.slice.injEq]at e;obtain⟨_,rfl,rfl⟩:=e;exact⟨rfl,Bru _,Bsb _⟩
 simp only[Value.slice.injEq]at f;obtain⟨_,rfl,rfl⟩:=f;exact⟨rfl,e,i⟩
def TyR.at{w:TW}{a:TA}{n b:Nat}{q:TP}(h:TyR w (.s a n b) q)(m:0<q.length):∃g o,a=some ⟨g,o,none⟩/\g<w.heap.size/\∀k (e:k<q.length),w.C g (o+k*2) (.i q[k].1)/\w.C g (o+k*2+1) (.i q[k].2):=by
 rcases h with ⟨_,rfl⟩|⟨g,o,z,A,f,p,_,_,j⟩
 ·simp at m
 simp only[Value.slice.injEq]at f;refine⟨g,o,f.1,Sp p,fun k e=>?_⟩;obtain⟨t,v,_⟩:=Fu q k e;exact⟨j _ _ t,by rw[Buc];exact j _ _ v⟩
def Ue(l:TP)(k:Nat):Bp (l.take k)=(Bp l).take (k*2):=by
 induction l generalizing k with
 | nil=>simp[Bp]
 | cons x r ih =>
  cases k with
  | zero=>simp[Bp]
  | succ j =>
   have e:Bp (x::r)=.i x.1::.i x.2::Bp r:=by simp[Bp]
   have b:Bp (x::r.take j)=.i x.1::.i x.2::Bp (r.take j):=by simp[Bp]
   rw[Buy,e,b,ih,show (j+1)*2=j*2+1+1 by omega,Buy,Buy]
def Xl(l:TP)(k:Nat):Bp (l.drop k)=(Bp l).drop (k*2):=by
 induction l generalizing k with
 | nil=>simp[Bp]
 | cons x r ih =>
  cases k with
  | zero=>simp[Bp]
  | succ j =>
   have e:Bp (x::r)=.i x.1::.i x.2::Bp r:=by simp[Bp]
   rw[Bvk,e,ih,show (j+1)*2=j*2+1+1 by omega,Bvk,Bvk]
def TyR.take{w:TW}{a:TA}{n b:Nat}{q:TP}(h:TyR w (.s a n b) q){k:Nat}(m:k<=q.length):TyR w (.s a k b) (q.take k):=by
 rcases h with ⟨f,rfl⟩|⟨g,o,B,p,i,t,f,v,z⟩
 ·simp only[Value.slice.injEq]at f;obtain⟨rfl,rfl,rfl⟩:=f;have:k=0:=by simpa using m
  subst this;exact .inl ⟨rfl,rfl⟩
 simp only[Value.slice.injEq]at i;obtain⟨rfl,rfl,rfl⟩:=i;have A:(q.take k).length=k:=Fr;refine .inr ⟨g,o,b,p,by rw[A],t,Ck,v,fun j x e=>z j x ?_⟩;rw[Ue,Bs0]at e
 split at e
 ·exact e
 simp at e
def TyR.drop{w:TW}{u o:Nat}{n O:Nat}{q:TP}(h:TyR w (.s (some ⟨u,o,none⟩) n O) q){k m d:Nat}(z:k<=q.length)(A:m=q.length-k)(B:d=O-k):TyR w (.s (some ⟨u,o+k*2,none⟩) m d) (q.drop k):=by
 rcases h with ⟨b,rfl⟩|⟨C,D,F,i,e,p,b,G,t⟩
 ·simp at b
 simp only[Value.slice.injEq,Option.some.injEq,Addr.mk.injEq,Br8]at e;obtain⟨⟨rfl,rfl⟩,rfl,rfl⟩:=e;have v:(q.drop k).length=m:=Fr;refine .inr ⟨u,o+k*2,d,i,by rw[v],p,Ck,Ck,fun j x f=>?_⟩;rw[Xl,List.getElem?_drop]at f;rw[Buc];exact t _ _ f
def TyR.new1(w:TW)(k n:Int):TyR (w.alloc (O7 k n)) (.s (.p w.heap.size) 1 1) [(k,n)]:=by
 refine .inr ⟨w.heap.size,0,1,_,rfl,Be w _,Hd,Pf,fun j x b=>?_⟩;rw[Bb (Be w _),Brz];simpa[Bp] using b
def TyR.new2(w:TW)(k n b c:Int):TyR (w.alloc (O20 k n b c)) (.s (.p w.heap.size) 2 2) [(k,n),(b,c)]:=by
 refine .inr ⟨w.heap.size,0,2,_,rfl,Be w _,Hd,Pf,fun j x e=>?_⟩;rw[Bb (Be w _),Brz];simpa[Bp] using e
def Jo{w:TW}{q:Array Oper}{t:List Oper}{o:Oper}{a:Act}{Q:Exit->Act->TW->Prop}(z:o.guard=none)(s x:Operand) (A:o.op=.call { callee:=.builtin .append,args:=#[s,x],argTypes:=#[105,105] }) (e:Nat)(v:TX)(f b:TP)(B:TA)(C vc:Nat)(D:a.eval s=v)(m:w.ownsRow e 31 2 v f.length (Bp f))(F:a.eval x=.s B C vc)(J:TyR w (.s B C vc) b) (h1:f.length+b.length<=100000)(K:e<=w.heap.size) (h:∀l i,i.ownsRow e 31 2 l (f++b).length (Bp (f++b))->w.grownBy i v.ownBlock->wpList prog q Q t (a.put o.dst l) i):wpList prog q Q (o::t) a w:=by
 obtain⟨G,I,L,N,O⟩:=Bsa Tryz.infoType;rcases J with ⟨p,rfl⟩|⟨g,V,c,a2,p,hg,hc,hm,Y⟩
 ·refine Bwp z s x _ A e 31 G 2 Bsk I v _ _ D m (F.trans p) ?_;exact h v w (by simpa using m) (World.grownBy.refl _ _)
 refine Br3 w z s x _ A e 31 G _ 2 16 Bsk I L N O rfl Ck v _ _ D m ⟨g,V,none⟩ b.length c (Bp b) (F.trans p) (Jm b) ?_ (Sg b) Pf Ck K ?_
 ·intro j u Z;rw[Bvc];exact Y j u Z
 intro l i a0 a1 _;exact h l i (by rw[Ws,Ib];exact a0) a1
structure Bf where
 locals:List (Int × Int)
 stack:List (Int × Int)
def Ds (r:Int × Int):List (Int × Int):=if r.1=0 then [] else [r]
def Ci (a b:Int × Int)(l:TP):List (Int × Int):=l.map fun x=>if x=a then b else x
def Hw (T:TI):TP->TP->Bool
 | _,[]=>true
 | [],_::_=>false
 | s::ss,t::ts=>Tr.rfits T s.1 s.2 t.1 t.2&&Hw T ss ts
def Ey (T:TI)(st want:TP):Bool:=if st.length<want.length then false else Hw T (st.drop (st.length-want.length)) want
def Cj (T:TI)(a b:Bf):Bool :=
 if a.stack.length≠b.stack.length then false else if a.locals.length≠b.locals.length then false else Ey T a.locals b.locals&&Ey T a.stack b.stack
def Ym(k:Int)(w:TW):Calls prog 141 #[.i k] w fun e b=>∃a c,e=.r (.s a 1 c)/\TyR b (.s a 1 c) [(k,0)]/\Bl w b:=by
 have h:=TyR.new1 w k 0;go_in;go_wp2;go_ret;exact⟨_,_,rfl,h,QN _⟩
def Lb(c:Int)(w:TW):Calls prog 142 #[.i c] w fun e b=>e=.r (.agg #[.i 3,.i c])/\Bl w b:=by
 go_in;go_wp2_with fail;refine tb (.agg #[.i 3,.i c]) (by simp[results,results142,go_sem]) ?_;exact⟨rfl,QN _⟩
def Zj(m:RMV)(w:TW):Calls prog 143 #[m.val] w fun e f=>∃a c,e=.r (.s a (Ds (m.r1,m.r2)).length c)/\TyR f (.s a (Ds (m.r1,m.r2)).length c) (Ds (m.r1,m.r2))/\Bl w f:=by
 obtain⟨i,j,l,p,q,b,g,t,v,z,A,B,C,D,F,G,I,J⟩:=m;simp only[RMV.val];unfold Ds;simp only;by_cases h:b=0;·subst h;go_in;go_wp2;go_ret;exact⟨none,0,rfl,TyR.nil _,QN _⟩
 rw[Pk h];have L:(b==0)=false:=by simpa using h
 have K:=TyR.new1 (w.alloc (O12 i j l p q b g t v z A B C D F G I J)) b g;clear h;go_in;go_wp2;go_ret;exact⟨_,_,rfl,by simpa using K,Bu _ _ _⟩
def Dr{u n:Nat}{a w:TW}(h:Below u a w):Below u a (w.drewN n):=⟨h.os,h.tape,h.output,h.size,h.block⟩
def Xi(a b:Int×Int)(l:TP)(q:Nat)(c:q<l.length):Ci a b (l.take (q+1))=Ci a b (l.take q)++[if l[q]=a then b else l[q]]:=by
 unfold Ci;rw[Bss c,Bse];rfl
def Gw{w:TW}{u:Nat}{l:TX}{q:TP}{n:Nat}(h:w.ownsRow u 31 2 l n (Bp q))(c:n=q.length):TyR w l q:=by
 subst c;exact TyR.of_tys h
def My(b f:TP)(h i:TA)(l m p q:Nat)(w:TW)(z:TyR w (.s h l m) b)(A:TyR w (.s i p q) f)(I:b.length+f.length<=10000):Calls prog 296 #[.s h l m,.s i p q] w fun e B=>∃a c,e=.r (.s a (b.length+f.length) c)/\Cq B w.heap.size (.s a (b.length+f.length) c) (b++f)/\Bl w B:=by
 go_in;go_wp2_with (at_builtin;refine Jo rfl _ _ rfl w.heap.size _ [] b h l m rfl (Brw _ _ _ _) rfl z Fr Ck ?_)
 intro J K C g;have t:=(Brm w.heap.size w).grown g Ck (fun j v=>by simp[Value.ownBlock]at v);have F:=A.below t;have L:=t.size;clear g z A;go_wp2_with (at_builtin;refine Jo rfl _ _ rfl w.heap.size _ b f i p q rfl C rfl F Ck Ck ?_)
 intro N O D g;have G:=t.grown g Ck (fun j v=>(C.lt j v).1);obtain⟨a,c,rfl⟩:=Bh D;clear g;go_wp2;go_ret;exact⟨a,c,rfl,by unfold Cq;rw[Ws];exact D,G⟩
def Rl(l:TP)(va:TA)(vn vc:Nat)(k n b f:Int)(w:TW)(h1:TyR w (.s va vn vc) l)(hl:l.length<=10000):Calls prog 297 #[.s va vn vc,.agg #[.i k,.i n],.agg #[.i b,.i f]] w fun e w'=>∃a c,e=.r (.s a l.length c)/\Cq w' w.heap.size (.s a l.length c) (Ci (k,n) (b,f) l)/\Bl w w':=by
 obtain⟨rfl,-,-⟩:=h1.cap;obtain⟨i0,hi,a4,a5,a6⟩:=Bsa Tryz.infoType;have a9:=Bu w (O7 k n) (O7 b f);have C0:=Cb w (O7 k n) (O7 b f);have D0:=Bx w (O7 k n) (O7 b f);go_in;go_wp2
 go_loopw [7,8] (fun v i wr=>∃q:Nat,q<=l.length/\i=.i (q:Int)/\wr.ownsRow (w.heap.size+1+1) 31 2 v q (Bp (Ci (k,n) (b,f) (l.take q)))/\Bl w wr /\
   wr.heap[w.heap.size]?=some (O7 k n)/\wr.heap[w.heap.size+1]?=some (O7 b f))
  (fun _ i _=>l.length-(intOf i).toNat)
 case atStart=>exact⟨0,Ck,rfl,Brw _ _ _ _,a9,C0,D0⟩
 case round=>
  clear a9 C0 D0;obtain⟨q,hq,rfl,m,F,I,J⟩:=hrel;have a7:=F.size;have lC:=Sp I;have lD:=Sp J;obtain⟨ua,uc,rfl⟩:=Bh m;by_cases b0:q<l.length
  ·obtain⟨g,o,rfl,hg,a8⟩:=(h1.below F).at Ck;obtain⟨x0,x1⟩:=a8 q b0;have G:Ci (k,n) (b,f) (l.take (q+1))=Ci (k,n) (b,f) (l.take q)++[if l[q]=(k,n) then (b,f) else l[q]]:=Xi _ _ l q b0
   generalize l[q]=t at *;obtain⟨p,A⟩:=t;simp only at x0 x1;obtain⟨y0,y1⟩:=cl2 I;obtain⟨z0,z1⟩:=cl2 J;simp at y0 y1 z0 z1;have kb:(q:Int)<(l.length:Int):=Ck;have b2:=Bc a8;clear a8;by_cases a2:p=k
   ·subst a2;by_cases a3:A=n
    ·subst a3;rw[Th rfl]at G;have N:=Bc G;clear G;go_wp2;go_quiet (fail);go_wp2_with (at_builtin;refine Br3 _ rfl _ _ 105 rfl (w.heap.size+1+1) 31 i0 _ 2 16 Bsk hi a4 a5 a6 rfl Fm _ _ _ rfl (m.alloc _) ⟨wr.heap.size,0,none⟩ 1 1 [.i b,.i f] rfl rfl ?c1 ?c2 ?c3 ?c4 ?c5 ?_)
     case c1=>exact Dh _ _ _ _ rfl
     case c2=>intro u K;simp at K;rcases K with rfl|rfl<;>rfl
     case c3=>unfold maxLen;omega
     case c4=>omega
     case c5=>simp;omega
     rename_i nq;intro O B L z _;have Q:(wr.drewN nq).ownsRow (w.heap.size+1+1) 31 2 (.s ua q uc) q (Bp (Ci (p,A) (b,f) (l.take q))):=m;have V:=((Dr (n:=nq) F).alloc (show w.heap.size<=(wr.drewN nq).heap.size from a7) (O7 b f)).grown z Fr (fun j Y=>by have:=(m.lt j Y).1;omega);have C:Kp none 0 wr ((wr.drewN nq).alloc (O7 b f)):=Kp.alloc (wr.drewN nq) _;have Z:B.heap[w.heap.size]?=some (O7 p A):=by
      rw[z.block _ Fr (fun D=>by have:=(m.lt _ D.symm).1;omega)];exact C _ _ _ (Bsb _) I Hd
     have a0:B.heap[w.heap.size+1]?=some (O7 b f):=by
      rw[z.block _ Fr (fun D=>by have:=(m.lt _ D.symm).1;omega)];exact C _ _ _ (Bsb _) J Hd
     have a1:B.ownsRow (w.heap.size+1+1) 31 2 O (q+1) (Bp (Ci (p,A) (b,f) (l.take (q+1)))):=by rw[Ba N,Ib];exact L
     clear z m Q L F I J C x0 x1 y0 y1 z0 z1;go_wp2;go_roundw
     case rel=>exact⟨q+1,Ck,Mg,a1,V,Z,a0⟩
     case measure=>simp[intOf];omega
    have he:(A==n)=false:=by simpa using a3
    rw[Pk (by simpa using a3)]at G;clear a3;have N:=Bc G;clear G;go_wp2;go_quiet (fail);go_wp2_with (at_builtin;refine Br3 _ rfl _ _ 105 rfl (w.heap.size+1+1) 31 i0 _ 2 16 Bsk hi a4 a5 a6 rfl Fm _ _ _ rfl (m.alloc _) ⟨wr.heap.size,0,none⟩ 1 1 [.i p,.i A] rfl rfl ?c1 ?c2 ?c3 ?c4 ?c5 ?_)
    case c1=>exact Dh _ _ _ _ rfl
    case c2=>intro u K;simp at K;rcases K with rfl|rfl<;>rfl
    case c3=>unfold maxLen;omega
    case c4=>omega
    case c5=>simp;omega
    rename_i nq;intro O B L z _;have Q:(wr.drewN nq).ownsRow (w.heap.size+1+1) 31 2 (.s ua q uc) q (Bp (Ci (p,n) (b,f) (l.take q))):=m;have V:=((Dr (n:=nq) F).alloc (show w.heap.size<=(wr.drewN nq).heap.size from a7) (O7 p A)).grown z Fr (fun j Y=>by have:=(m.lt j Y).1;omega);have C:Kp none 0 wr ((wr.drewN nq).alloc (O7 p A)):=Kp.alloc (wr.drewN nq) _;have Z:B.heap[w.heap.size]?=some (O7 p n):=by
     rw[z.block _ Fr (fun D=>by have:=(m.lt _ D.symm).1;omega)];exact C _ _ _ (Bsb _) I Hd
    have a0:B.heap[w.heap.size+1]?=some (O7 b f):=by
     rw[z.block _ Fr (fun D=>by have:=(m.lt _ D.symm).1;omega)];exact C _ _ _ (Bsb _) J Hd
    have a1:B.ownsRow (w.heap.size+1+1) 31 2 O (q+1) (Bp (Ci (p,n) (b,f) (l.take (q+1)))):=by rw[Ba N,Ib];exact L
    clear z m Q L F I J C x0 x1 y0 y1 z0 z1;go_wp2;go_roundw
    case rel=>exact⟨q+1,Ck,Mg,a1,V,Z,a0⟩
    case measure=>simp[intOf];omega
   have he:(p==k)=false:=by simpa using a2
   rw[Pk (by simpa using fun h=>absurd h a2)]at G;clear a2;have N:=Bc G;clear G;go_wp2;go_quiet (fail);go_wp2_with (at_builtin;refine Br3 _ rfl _ _ 105 rfl (w.heap.size+1+1) 31 i0 _ 2 16 Bsk hi a4 a5 a6 rfl Fm _ _ _ rfl (m.alloc _) ⟨wr.heap.size,0,none⟩ 1 1 [.i p,.i A] rfl rfl ?c1 ?c2 ?c3 ?c4 ?c5 ?_)
   case c1=>exact Dh _ _ _ _ rfl
   case c2=>intro u K;simp at K;rcases K with rfl|rfl<;>rfl
   case c3=>unfold maxLen;omega
   case c4=>omega
   case c5=>simp;omega
   rename_i nq;intro O B L z _;have Q:(wr.drewN nq).ownsRow (w.heap.size+1+1) 31 2 (.s ua q uc) q (Bp (Ci (k,n) (b,f) (l.take q))):=m;have V:=((Dr (n:=nq) F).alloc (show w.heap.size<=(wr.drewN nq).heap.size from a7) (O7 p A)).grown z Fr (fun j Y=>by have:=(m.lt j Y).1;omega);have C:Kp none 0 wr ((wr.drewN nq).alloc (O7 p A)):=Kp.alloc (wr.drewN nq) _;have Z:B.heap[w.heap.size]?=some (O7 k n):=by
    rw[z.block _ Fr (fun D=>by have:=(m.lt _ D.symm).1;omega)];exact C _ _ _ (Bsb _) I Hd
   have a0:B.heap[w.heap.size+1]?=some (O7 b f):=by
    rw[z.block _ Fr (fun D=>by have:=(m.lt _ D.symm).1;omega)];exact C _ _ _ (Bsb _) J Hd
   have a1:B.ownsRow (w.heap.size+1+1) 31 2 O (q+1) (Bp (Ci (k,n) (b,f) (l.take (q+1)))):=by rw[Ba N,Ib];exact L
   clear z m Q L F I J C x0 x1 y0 y1 z0 z1;go_wp2;go_roundw
   case rel=>exact⟨q+1,Ck,Mg,a1,V,Z,a0⟩
   case measure=>simp[intOf];omega
  have e:l.take q=l:=Bs7 Ck;have e2:q=l.length:=Ck;subst e2;rw[e]at m;have b1:(Ci (k,n) (b,f) l).length=l.length:=by simp[Ci]
  clear e;go_wp2;go_ret;exact⟨ua,uc,rfl,by unfold Cq;rw[b1];exact D6 m Ck,F⟩
structure RFv where
 fa1:Option Addr
 fl:Nat
 fc1:Nat
 fa2:Option Addr
 fm:Nat
 fc2:Nat
def RFv.val(f:RFv):Value:=.agg #[.slice f.fa1 f.fl f.fc1,.slice f.fa2 f.fm f.fc2]
def RFl.v(f:RFl):RFv:=⟨f.a1,f.l.length,f.c1,f.a2,f.ms.length,f.c2⟩
def RFv.fitsAs(f:RFv)(T:TI)(w:TW):Prop:=∀k n k' n' w',Below w.heap.size w w' ->
 Calls Tryz.prog 178 #[f.val,.agg #[.int .i64 k,.int .i64 n],.agg #[.int .i64 k',.int .i64 n']] w' fun e w''=>e=.returned (.bool (Tr.rfits T k n k' n'))/\Below w'.heap.size w' w''
def RFv.fitsAs.below{f:RFv}{z:TI}{w s:TW}(h:f.fitsAs z w)(b:Bl w s):f.fitsAs z s:=fun k n c e g i=>h k n c e g (b.trans (i.mono b.size))
def RFl.fitsAs{f:RFl}{w:TW}(b:f.ok w):f.v.fitsAs f.T w:=fun k n c e g h=>Bjk f.a1 f.a2 f.c1 f.ms.length f.c2 f.bb f.l k n c e g (by have:=b.1;omega) (b.below h).2.2.2.2.1
def Vn(f:RFv)(T:TI)(h b:TP)(a1 a2:TA)(n1 c1 n2 c2:Nat)(w:TW)(hF:f.fitsAs T w)(h1:TyR w (.s a1 n1 c1) h)(h2:TyR w (.s a2 n2 c2) b)(b1:h.length<=20000)(b2:b.length<=20000):Calls prog 226 #[f.val,.s a1 n1 c1,.s a2 n2 c2] w fun e m=>e=.r (.bool (Ey T h b))/\Bl w m:=by
 obtain⟨rfl,-,-⟩:=h1.cap;obtain⟨rfl,-,-⟩:=h2.cap;obtain⟨z,B,D,F,G,I⟩:=f;unfold RFv.fitsAs at hF;simp only[RFv.val]at hF ⊢;have HF:=Bc hF;clear hF;have Y:Bl w (w.alloc (O11 z B D F G I)):=QN _;have C0:=Be w (O11 z B D F G I);unfold Ey;by_cases J:h.length<b.length;·rw[Th J];have b3:(h.length:Int)-(b.length:Int)<0:=Ck;clear J;go_in;go_wp2;go_ret;exact⟨rfl,Y⟩
 rw[Pk J];obtain⟨c,a8⟩:∃c:Nat,h.length=c+b.length:=⟨h.length-b.length,Ck⟩;have e0:h.length-b.length=c:=Ck;rw[e0];generalize j:Hw T (h.drop c) b=r;have p:Hid (Hw T ((h.drop c).drop 0) (b.drop 0)=r):=j;have b4:(h.length:Int)-(b.length:Int)=(c:Int):=Ck;have b5:c+b.length<=h.length:=Ck;have b6:h.length<=c+b.length:=Ck;clear J e0 j a8;go_in;go_wp2
 go_loopw [8] (fun i wr=>∃q:Nat,q<=b.length/\i=.i (q:Int)/\Hid (Hw T ((h.drop c).drop q) (b.drop q)=r)/\Bl w wr/\wr.heap[w.heap.size]?=some (O11 z B D F G I))
  (fun i _=>b.length-(intOf i).toNat)
 case atStart=>exact⟨0,Ck,rfl,p,Y,C0⟩
 case round=>
  clear p Y C0;obtain⟨q,hq,rfl,p,v,Z⟩:=hrel;have a9:=v.size;have lF:=Sp Z;by_cases a0:q<b.length
  ·obtain⟨g,o,rfl,hg,a3⟩:=(h1.below v).at Ck;obtain⟨g2,o2,rfl,a4,a5⟩:=(h2.below v).at Ck;have a6:c+q<h.length:=Ck;obtain⟨K,L⟩:=a3 (c+q) a6;obtain⟨N,O⟩:=a5 q a0;have j:=Ba p;have e1:(h.drop c).drop q=h[c+q]::(h.drop c).drop (q+1):=by
    rw[List.drop_drop,List.drop_drop,Brj a6];rfl
   have e2:b.drop q=b[q]::b.drop (q+1):=Brj a0;rw[e1,e2,Hw]at j;generalize h[c+q]=s at *;generalize b[q]=t at *;obtain⟨s1,s2⟩:=s;obtain⟨t1,t2⟩:=t;simp only at K L N O j;have hc:=Ba HF s1 s2 t1 t2 _ v.drew;generalize Tr.rfits T s1 s2 t1 t2=A at *;have HC:=Bc hc;obtain⟨Q,V⟩:=cl2 Z;simp at Q V;have kb:(q:Int)<(b.length:Int):=Ck;have b7:(c:Int)+(q:Int)<(h.length:Int):=Ck;have kw:IntKind.i64.wrap ((c:Int)+(q:Int))=(c:Int)+(q:Int):=Cx _ Ck Ck;have kn:((c:Int)+(q:Int)).toNat=c+q:=Ck;have k0:(0:Int)<=(c:Int)+(q:Int):=Ck;clear a3 a5 e1 e2 hc p;go_wp2
   go_region_held3 (fun m=>m.C w.heap.size 0 (.s z B D)/\m.C w.heap.size 1 (.s F G I)/\m.C g (o+(c+q)*2) (.i s1)/\m.C g (o+(c+q)*2+1) (.i s2)/\m.C g2 (o2+q*2) (.i t1)/\m.C g2 (o2+q*2+1) (.i t2))
    (first|exact⟨Q,V,K,L,N,O⟩|exact⟨QC l lF Q,QC l lF V,QC l hg K,QC l hg L,QC l a4 N,QC l a4 O⟩)
    (first|(go_at_call 178;refine(Ba HC).mono ?_;rintro e w7 ⟨rfl,l⟩))
   have a7:=v.drew.trans (l.mono a9);have b0:=stay l (show (wr.drew).heap[w.heap.size]?=_ from Z);clear l K L N O Q V HC;cases A with
   | true =>
    have HG:Hid (Hw T ((h.drop c).drop (q+1)) (b.drop (q+1))=r):=by unfold Hid;rw[<- j];simp
    clear j;go_wp2;go_roundw
    case rel=>exact⟨q+1,Ck,Mg,HG,a7,b0⟩
    case measure=>simp[intOf];omega
   | false =>
    have HE:Hid (r=false):=by unfold Hid;rw[<- j];simp
    clear j;go_wp2;go_ret;exact⟨by rw[Ba HE];rfl,a7⟩
  have HE:Hid (r=true):=by unfold Hid;rw[<- Ba p,Brq (by omega:b.length<=q),Hw]
  have kb:¬(q:Int)<(b.length:Int):=Ck;clear p;go_wp2;go_ret;exact⟨by rw[Ba HE];rfl,v⟩
structure FrV where
 la:Option Addr
 ln:Nat
 lc:Nat
 sa:Option Addr
 sn:Nat
 sc:Nat
def FrV.val(v:FrV):Value:=.agg #[.slice v.la v.ln v.lc,.slice v.sa v.sn v.sc]
structure FrV.is(v:FrV)(x:Bf)(w:World):Prop where
 lo:TyR w (.slice v.la v.ln v.lc) x.locals
 st:TyR w (.slice v.sa v.sn v.sc) x.stack
 hl:x.locals.length<=5000
 hs:x.stack.length<=5000
def FrV.is.below{v:FrV}{x:Bf}{w s:TW}(h:v.is x w)(b:Bl w s):v.is x s:=⟨h.lo.below b,h.st.below b,h.hl,h.hs⟩
def Pv(f:RFv)(T:TI)(u v:FrV)(x y:Bf)(w:TW)(hF:f.fitsAs T w)(c:u.is x w)(g:v.is y w):Calls prog 173 #[f.val,u.val,v.val] w fun e i=>e=.r (.bool (Cj T x y))/\Bl w i:=by
 have t:=fun i (h:Bl w i)=>Vn f T x.locals y.locals u.la v.la u.ln u.lc v.ln v.lc i (hF.below h) (c.lo.below h) (g.lo.below h) (by have:=c.hl;omega) (by have:=g.hl;omega);have z:=fun i (h:Bl w i)=>Vn f T x.stack y.stack u.sa v.sa u.sn u.sc v.sn v.sc i (hF.below h) (c.st.below h) (g.st.below h) (by have:=c.hs;omega) (by have:=g.hs;omega);obtain⟨A,-,-⟩:=c.lo.cap;obtain⟨B,-,-⟩:=c.st.cap;obtain⟨C,-,-⟩:=g.lo.cap;obtain⟨D,-,-⟩:=g.st.cap;have F:=c.hl;have b2:=c.hs;have b3:=g.hl;have b4:=g.hs;generalize b:Cj T x y=R;unfold Cj at b;rw[<- A,<- B,<- C,<- D]at b;generalize Ey T x.locals y.locals=P at *;generalize Ey T x.stack y.stack=Q at *;clear hF c g;obtain⟨L,N,O,V,Y,Z⟩:=f;obtain⟨la,l,lc,sa,m,sc⟩:=u;obtain⟨a0,p,a2,a3,q,a4⟩:=v;simp only[RFv.val,FrV.val]at t z b A B C D ⊢;have a7:l<=5000:=Ck;have a8:m<=5000:=Ck;have a9:p<=5000:=Ck;have b0:q<=5000:=Ck;have H1:=Bc t;have H2:=Bc z;have s:=Em w (O11 L N O V Y Z) (O21 la l lc sa m sc) (O21 a0 p a2 a3 q a4);have G:=Nz w (O11 L N O V Y Z) (O21 la l lc sa m sc) (O21 a0 p a2 a3 q a4);clear t z A B C D F b2 b3 b4;by_cases I:m=q
 ·subst I;rw[Pk Hd]at b;by_cases J:l=p
  ·subst J;rw[Pk Hd]at b;have j:=Bc b;clear b;go_in;go_wp2_with fail;refine Qb (Ba H1 _ s) s ?_;intro w1 K a5;have F1:=stay K G.1;have A1:=stay K G.2.1;have B1:=stay K G.2.2;obtain⟨f0,f1⟩:=cl2 F1;have a1:=Bb A1 1;have F:=Bb B1 1;have lF:=Sp F1;have lA:=Sp A1;have lB:=Sp B1;simp at f0 f1 a1 F;go_wp2_with fail;refine Qb (Ba H2 _ a5) a5 ?_;intro w2 b5 a6;cases P with
   | true =>
    go_wp2;go_ret;exact⟨by rw[<- Ba j];rfl,a6⟩
   | false =>
    go_wp2;go_ret;exact⟨by rw[<- Ba j];rfl,a6⟩
  rw[Th J]at b;have j:=Bc b;have b6:((l:Int) != (p:Int))=true:=Fr;clear b J;go_in;go_wp2;go_ret;exact⟨by rw[<- Ba j];rfl,s⟩
 rw[Th I]at b;have j:=Bc b;have b7:((m:Int) != (q:Int))=true:=Fr;clear b I;go_in;go_wp2;go_ret;exact⟨by rw[<- Ba j];rfl,s⟩
def Ei (op:Int):Bool:=decide (op=11\/op=12\/op=13\/op=14)
def Dl (op:Int):Bool:=decide (¬(op=11\/op=22\/op=23))
def Bgy(op:Int)(w:TW):Calls prog 230 #[.i op] w fun e c=>e=.r (.bool (Ei op))/\Bl w c:=by
 unfold Ei;by_cases h:op=11\/op=12\/op=13\/op=14
 ·rcases h with rfl|rfl|rfl|rfl
  all_goals
   go_in;go_wp2;go_ret;exact⟨rfl,Brm _ _⟩
 have f:(op==11)=false:=Fr;have g:(op==12)=false:=Fr;have j:(op==13)=false:=Fr;have l:(op==14)=false:=Fr;have b:decide (op=11\/op=12\/op=13\/op=14)=false:=by simpa using h
 rw[b];clear h b;go_in;go_wp2;go_ret;exact⟨rfl,Brm _ _⟩
def Bat(op:Int)(w:TW):Calls prog 228 #[.i op] w fun e c=>e=.r (.bool (Dl op))/\Bl w c:=by
 unfold Dl;by_cases h:op=11\/op=22\/op=23
 ·rcases h with rfl|rfl|rfl
  all_goals
   go_in;go_wp2;go_ret;exact⟨rfl,Brm _ _⟩
 have f:(op != 11)=true:=Fr;have g:(op != 22)=true:=Fr;have j:(op != 23)=true:=Fr;have b:decide (¬(op=11\/op=22\/op=23))=true:=by simpa using h
 rw[b];clear h b;go_in;go_wp2;go_ret;exact⟨rfl,Brm _ _⟩
def Gc (p:Int):List Rd.Mp->Option Bf
 | []=>none
 | m::r=>if m.place=p then some ⟨m.locals,m.stack⟩ else Gc p r
def Cu (x:Option Bf):Bf:=x.getD ⟨[],[]⟩
def Bgw(m:RMV)(b:List (Rd.Mp×Value×Value))(bb:Nat)(p:Int)(w:TW)(a8:m.ml=b.length)(b6:b.length<=1000)(b3:∀q∈b,q.1.locals.length<=5000/\q.1.stack.length<=5000)(hh:K4 w bb (.s m.ma m.ml m.mc) b):Calls prog 172 #[m.val,.i p] w fun e l=>∃v:FrV,e=.r (.tuple #[v.val,.bool (Gc p (b.map Prod.fst)).isSome])/\v.is (Cu (Gc p (b.map Prod.fst))) l/\Bl w l:=by
 generalize c:Gc p (b.map Prod.fst)=r;have j:Hid (Gc p ((b.map Prod.fst).drop 0)=r):=c;obtain⟨A,B,C,D,F,G,I,J,K,L,N,O,Q,V,ml,z,Y,Z⟩:=m;simp only[RMV.val]at a8 hh ⊢;subst a8;have a9:Hid (∀l,Bl w l->K4 l bb (.s V b.length z) b):=fun l h=>hh.kp (Kp.of_below (e:=none) h) Fm Fm;clear c hh;have b4:=Bu w (O12 A B C D F G I J K L N O Q V b.length z Y Z) (O21 none 0 0 none 0 0);have C0:=Cb w (O12 A B C D F G I J K L N O Q V b.length z Y Z) (O21 none 0 0 none 0 0);have D0:=Bx w (O12 A B C D F G I J K L N O Q V b.length z Y Z) (O21 none 0 0 none 0 0);go_in;go_wp2
 go_loopw [6] (fun i wr=>∃q:Nat,q<=b.length/\i=.i (q:Int)/\Hid (Gc p ((b.map Prod.fst).drop q)=r)/\wr=(w.alloc (O12 A B C D F G I J K L N O Q V b.length z Y Z)).alloc (O21 none 0 0 none 0 0))
  (fun i _=>b.length-(intOf i).toNat)
 case atStart=>exact⟨0,Ck,rfl,j,rfl⟩
 case round=>
  clear j;obtain⟨q,hq,rfl,j,rfl⟩:=hrel;by_cases f:q<b.length
  ·have b0:=Ba a9 _ b4;obtain⟨g,hg,b7,_,a4⟩:=Cf b0.1 Ck;have y0:=(a4 _ (Eh b q f 0 Ck).2).trans (Eh b q f 0 Ck).1;have y1:=(a4 _ (Eh b q f 1 Ck).2).trans (Eh b q f 1 Ck).1;have y2:=(a4 _ (Eh b q f 2 Ck).2).trans (Eh b q f 2 Ck).1;have b1:=(Ba a9 _ (Brm _ _)).2 _ (Brn f);have a7:=b3 _ (Brn f);have hd:(b.map Prod.fst).drop q=b[q].1::(b.map Prod.fst).drop (q+1):=by
    rw[Brj (by simpa using f)];simp
   have c:=Ba j;rw[hd,Gc]at c;generalize b[q]=t at *;obtain⟨⟨b2,a0,a3⟩,u1,u2⟩:=t;simp at y0 y1 y2;simp only at b1 c a7;obtain⟨a5,a6⟩:=b1;obtain⟨a1,c1,rfl⟩:=Bh a5;obtain⟨a2,c2,rfl⟩:=Bh a6;have kb:(q:Int)<(b.length:Int):=Ck;clear a4 hd j b0;subst hg;by_cases he:b2=p
   ·subst he;rw[Th rfl]at c;have HE:=Bc c;have b5:FrV.is ⟨a1,a0.length,c1,a2,a3.length,c2⟩ ⟨a0,a3⟩ ((w.alloc (O12 A B C D F G I J K L N O Q (.p g) b.length z Y Z)).alloc (O21 a1 a0.length c1 a2 a3.length c2)) :=
     ⟨(TyR.of_tys a5).below (Bu _ _ _),(TyR.of_tys a6).below (Bu _ _ _),a7.1,a7.2⟩
    clear c a5 a6;go_wp2_with fail;refine tb (.tuple #[.agg #[.s a1 a0.length c1,.s a2 a3.length c2],.bool true]) (by simp[results,results172,go_sem]) ?_;refine⟨⟨a1,a0.length,c1,a2,a3.length,c2⟩,?_,?_,Bu _ _ _⟩
    ·rw[<- Ba HE];rfl
    rw[<- Ba HE];exact b5
   rw[Pk he]at c;have HG:=Bc c;have b8:(b2==p)=false:=by simpa using he
   clear c he a5 a6;go_wp2;go_roundw
   case rel=>exact⟨q+1,Ck,Mg,HG,trivial⟩
   case measure=>simp[intOf];omega
  have HE:Hid (none=r):=by unfold Hid;rw[<- Ba j,Brq Fr];rfl
  have kb:¬(q:Int)<(b.length:Int):=Ck;clear j;go_wp2_with fail;refine tb (.tuple #[.agg #[.s none 0 0,.s none 0 0],.bool false]) (by simp[results,results172,go_sem]) ?_;refine⟨⟨none,0,0,none,0,0⟩,?_,?_,Bu _ _ _⟩
  ·rw[<- Ba HE];rfl
  rw[<- Ba HE];exact⟨TyR.nil _,TyR.nil _,Bsb _,Bsb _⟩
def Iy (cl:Int)(ps:TP):List (Int × Int):=(if cl=255 then [] else [(3,cl)])++ps
def Lg (cl:Int)(ps:TP)(lo:Nat):Bf:=⟨Iy cl ps++List.replicate (lo-(Iy cl ps).length) (0,0),[]⟩
def Bgu(m:RMV)(c:TP)(f:Nat)(w:TW)(d1:m.lo=(f:Int))(f0:f<=1000)(b4:TyR w (.s m.pa m.pl m.pc) c)(f1:c.length<=1000):Calls prog 174 #[m.val] w fun e w'=>∃v:FrV,e=.returned v.val/\v.is (Lg m.cl c f) w'/\Bl w w':=by
 obtain⟨i0,hi,b5,b6,b7⟩:=Bsa Tryz.infoType;obtain⟨h,Z,G,I,J,r1,r2,lo,st,a0,ha,hl,hc,ma,ml,mc,a1,a2⟩:=m;simp only[RMV.val]at d1 b4 ⊢;subst d1;have d2:=fun w=>Lb h w;have d6:=Bc d2;clear d2;have a3:=Bu w (O12 h Z G I J r1 r2 (f:Int) st a0 ha hl hc ma ml mc a1 a2) (O21 none 0 0 none 0 0);have C0:=Cb w (O12 h Z G I J r1 r2 (f:Int) st a0 ha hl hc ma ml mc a1 a2) (O21 none 0 0 none 0 0);have D0:=Bx w (O12 h Z G I J r1 r2 (f:Int) st a0 ha hl hc ma ml mc a1 a2) (O21 none 0 0 none 0 0);unfold Lg;generalize Y:Iy h c=O;unfold Iy at Y
 -- what follows the head, for either head
 by_cases h1:h=255
 ·subst h1;rw[Th rfl,Btz]at Y;subst Y;go_in;go_wp2_with (at_builtin;refine Jo rfl _ _ rfl (w.heap.size+1+1) _ [] c G I J rfl (Brw _ _ _ _) rfl (b4.below a3) Fr Hd ?_)
  intro v' w1 a4 A;have K:=a3.grown A Fr (fun j B=>by simp[Value.ownBlock]at B);have C1:=(A.block _ (Sp C0) (by simp[Value.ownBlock])).trans C0;have D1:=(A.block _ (Sp D0) (by simp[Value.ownBlock])).trans D0;clear A C0 D0 a3;have b8:=K.size;have a5:w1.ownsRow (w.heap.size+1+1) 31 2 v' (c++List.replicate 0 ((0:Int),(0:Int))).length (Bp (c++List.replicate 0 ((0:Int),(0:Int)))):=by simpa using a4
  go_wp2
  go_loopw [3] (fun v wr=>∃q:Nat,q<=f-c.length/\wr.ownsRow (w.heap.size+1+1) 31 2 v (c.length+q) (Bp (c++List.replicate q ((0:Int),(0:Int))))/\Bl w wr/\wr.heap[w.heap.size]?=some (O12 255 Z G I J r1 r2 (f:Int) st a0 ha hl hc ma ml mc a1 a2)/\wr.heap[w.heap.size+1]?=some (O21 none 0 0 none 0 0))
   (fun v _=>f-lenOf v)
  case atStart=>exact⟨0,Ck,by simpa using a5,K,C1,D1⟩
  case round=>
   clear a4 a5 K C1 D1 b8;obtain⟨q,hq,l,C,t,p⟩:=hrel;have b9:=C.size;have lC:=Sp t;have lD:=Sp p;obtain⟨L,N,rfl⟩:=Bh l;have x5:=Bb t 5;simp at x5;by_cases d7:c.length+q<f
   ·have kb:((c.length+q:Nat):Int)<(f:Int):=Ck;have HD:Hid (c++List.replicate (q+1) ((0:Int),(0:Int))=c++List.replicate q ((0:Int),(0:Int))++[((0:Int),(0:Int))]):=by unfold Hid;rw[Bue,Bsi]
    go_wp2_with (at_builtin;refine Br3 _ rfl _ _ 105 rfl (w.heap.size+1+1) 31 i0 _ 2 16 Bsk hi b5 b6 b7 rfl Fm _ _ _ rfl (l.alloc _) ⟨wr.heap.size,0,none⟩ 1 1 [.i 0,.i 0] rfl rfl ?c1 ?c2 ?c3 ?c4 ?c5 ?_)
    case c1=>exact Dh _ _ _ _ rfl
    case c2=>intro u F;simp at F;subst F;rfl
    case c3=>unfold maxLen;omega
    case c4=>omega
    case c5=>simp;omega
    intro v2 w2 Q D _;have c0:=(C.alloc b9 (O7 0 0)).grown D Fr (fun j B=>by have:=(l.lt j B).1;omega);have C2:=(D.block _ (Sp (Bg t (O7 0 0))) (fun z=>by have:=(l.lt _ z.symm).1;omega)).trans (Bg t (O7 0 0));have D2:=(D.block _ (Sp (Bg p (O7 0 0))) (fun z=>by have:=(l.lt _ z.symm).1;omega)).trans (Bg p (O7 0 0));obtain⟨c6,c7,rfl⟩:=Bh Q;have V:w2.ownsRow (w.heap.size+1+1) 31 2 (.s c6 (c.length+q+1) c7) (c.length+(q+1)) (Bp (c++List.replicate (q+1) ((0:Int),(0:Int)))):=by rw[Ba HD,Ib];exact Q
    clear D l Q C t p x5;go_wp2;go_roundw
    case rel=>exact⟨q+1,Ck,V,c0,C2,D2⟩
    case measure=>simp[lenOf];omega
   have kb:¬((c.length+q:Nat):Int)<(f:Int):=Ck;have eq:f-c.length=q:=Ck;obtain⟨z0,z1⟩:=cl2 p;obtain⟨q0,q1⟩:=fr2 p;simp at z0 z1;have c8:=(Kp.set_lo (e:=none) (b:=w.heap.size+1+1) (i:=0) (g:=w.heap.size+1) (w:=wr) Ck (.s L (c.length+q) N)).trans (Kp.set_lo (i:=1) (g:=w.heap.size+1) Ck (.s none 0 0));have V:=Dc l c8 Fm;have a6:=Bc eq;clear eq;go_wp2_with fail;refine tb (.agg #[.s L (c.length+q) N,.s none 0 0]) (by simp[results,results174,go_sem,z0,z1]) ?_;refine⟨⟨L,c.length+q,N,none,0,0⟩,rfl,⟨?_,TyR.nil _,?_,Bsb _⟩,(C.setCell Hd _).setCell Hd _⟩
   ·rw[Ba a6];exact Gw V Hd
   rw[Ba a6];simp;omega
 have f2:(h != 255)=true:=by simpa using h1
 rw[Pk h1]at Y;clear h1;go_in;go_wp2_with fail;refine Qb (Ba d6 _) a3 ?_;intro w0 c9 d0;have a7:=stay c9 C0;have b0:=stay c9 D0;have d8:=d0.size;have f3:=Sp b0;have x2:=Bb a7 2;have f4:=Sp a7;simp at x2;go_wp2_with (at_builtin;refine Br3 _ rfl _ _ 105 rfl (w.heap.size+1+1) 31 i0 _ 2 16 Bsk hi b5 b6 b7 rfl Fm _ _ _ rfl (Brw _ _ _ _) ⟨w0.heap.size,0,none⟩ 1 1 [.i 3,.i h] rfl rfl ?c1 ?c2 ?c3 ?c4 ?c5 ?_)
 case c1=>exact Dh _ _ _ _ rfl
 case c2=>intro u F;simp at F;rcases F with rfl|rfl<;>rfl
 case c3=>unfold maxLen;omega
 case c4=>omega
 case c5=>simp;omega
 intro v0 d9 d3 b1 _;have b2:=(d0.alloc d8 (O7 3 h)).grown b1 Fr (fun j B=>by simp[Value.ownBlock]at B);have a8:=(b1.block _ (Sp (Bg a7 (O7 3 h))) (by simp[Value.ownBlock])).trans (Bg a7 (O7 3 h));have b3:=(b1.block _ (Sp (Bg b0 (O7 3 h))) (by simp[Value.ownBlock])).trans (Bg b0 (O7 3 h));have a9:d9.ownsRow (w.heap.size+1+1) 31 2 v0 ([((3:Int),h)]:TP).length (Bp [((3:Int),h)]):=by simpa[Bp] using d3
 have f5:=b2.size;have f6:=Sp b3;have f7:=Sp a8;have d4:=Bb a8 2;simp at d4;clear b1 d3 C0 D0 a3 c9 a7 b0 d0 x2;go_wp2_with (at_builtin;refine Jo rfl _ _ rfl (w.heap.size+1+1) _ [(3,h)] c G I J rfl a9 rfl (b4.below b2) Fr Ck ?_)
 intro v' w1 a4 A;have K:=b2.grown A Ck (fun j B=>by have:=(a9.lt j B).1;omega);have C1:=(A.block _ (Sp a8) (fun z=>by have:=(a9.lt _ z.symm).1;omega)).trans a8;have D1:=(A.block _ (Sp b3) (fun z=>by have:=(a9.lt _ z.symm).1;omega)).trans b3;have d5:([((3:Int),h)]++c).length<=1001:=Fr;have a5:w1.ownsRow (w.heap.size+1+1) 31 2 v' O.length (Bp O):=a4;rw[Y]at d5;have f8:=d5;clear A a8 b3 b2 a9 a4 Y d4;have b8:=K.size;go_wp2
 go_loopw [3] (fun v wr=>∃q:Nat,q<=f-O.length/\wr.ownsRow (w.heap.size+1+1) 31 2 v (O.length+q) (Bp (O++List.replicate q ((0:Int),(0:Int))))/\Bl w wr/\wr.heap[w.heap.size]?=some (O12 h Z G I J r1 r2 (f:Int) st a0 ha hl hc ma ml mc a1 a2)/\wr.heap[w.heap.size+1]?=some (O21 none 0 0 none 0 0))
  (fun v _=>f-lenOf v)
 case atStart=>exact⟨0,Ck,by simpa using a5,K,C1,D1⟩
 case round=>
  clear a5 K C1 D1 b8;obtain⟨q,hq,l,C,t,p⟩:=hrel;have b9:=C.size;have lC:=Sp t;have lD:=Sp p;obtain⟨L,N,rfl⟩:=Bh l;have x5:=Bb t 5;simp at x5;by_cases d7:O.length+q<f
  ·have kb:((O.length+q:Nat):Int)<(f:Int):=Ck;have HD:Hid (O++List.replicate (q+1) ((0:Int),(0:Int))=O++List.replicate q ((0:Int),(0:Int))++[((0:Int),(0:Int))]):=by unfold Hid;rw[Bue,Bsi]
   go_wp2_with (at_builtin;refine Br3 _ rfl _ _ 105 rfl (w.heap.size+1+1) 31 i0 _ 2 16 Bsk hi b5 b6 b7 rfl Fm _ _ _ rfl (l.alloc _) ⟨wr.heap.size,0,none⟩ 1 1 [.i 0,.i 0] rfl rfl ?c1 ?c2 ?c3 ?c4 ?c5 ?_)
   case c1=>exact Dh _ _ _ _ rfl
   case c2=>intro u F;simp at F;subst F;rfl
   case c3=>unfold maxLen;omega
   case c4=>omega
   case c5=>simp;omega
   intro v2 w2 Q D _;have c0:=(C.alloc b9 (O7 0 0)).grown D Fr (fun j B=>by have:=(l.lt j B).1;omega);have C2:=(D.block _ (Sp (Bg t (O7 0 0))) (fun z=>by have:=(l.lt _ z.symm).1;omega)).trans (Bg t (O7 0 0));have D2:=(D.block _ (Sp (Bg p (O7 0 0))) (fun z=>by have:=(l.lt _ z.symm).1;omega)).trans (Bg p (O7 0 0));obtain⟨c6,c7,rfl⟩:=Bh Q;have V:w2.ownsRow (w.heap.size+1+1) 31 2 (.s c6 (O.length+q+1) c7) (O.length+(q+1)) (Bp (O++List.replicate (q+1) ((0:Int),(0:Int)))):=by rw[Ba HD,Ib];exact Q
   clear D l Q C t p x5;go_wp2;go_roundw
   case rel=>exact⟨q+1,Ck,V,c0,C2,D2⟩
   case measure=>simp[lenOf];omega
  have kb:¬((O.length+q:Nat):Int)<(f:Int):=Ck;have eq:f-O.length=q:=Ck;obtain⟨z0,z1⟩:=cl2 p;obtain⟨q0,q1⟩:=fr2 p;simp at z0 z1;have c8:=(Kp.set_lo (e:=none) (b:=w.heap.size+1+1) (i:=0) (g:=w.heap.size+1) (w:=wr) Ck (.s L (O.length+q) N)).trans (Kp.set_lo (i:=1) (g:=w.heap.size+1) Ck (.s none 0 0));have V:=Dc l c8 Fm;have a6:=Bc eq;clear eq;go_wp2_with fail;refine tb (.agg #[.s L (O.length+q) N,.s none 0 0]) (by simp[results,results174,go_sem,z0,z1]) ?_;refine⟨⟨L,O.length+q,N,none,0,0⟩,rfl,⟨?_,TyR.nil _,?_,Bsb _⟩,(C.setCell Hd _).setCell Hd _⟩
  ·rw[Ba a6];exact Gw V Hd
  rw[Ba a6];simp;omega
abbrev Sb:Rf.Mth × K0:=⟨⟨⟨0,0,[],(0,0),0,0,[],[],[]⟩,0,0⟩,⟨.slice none 0 0,⟨#[]⟩,.slice none 0 0,.slice none 0 0⟩⟩
def Co (F:List Rf.Fld)(ms:List Rd.Mth)(res:Int × Int)(op n:Int):List (Int × Int) :=
 if op=7\/op=8\/op=9\/op=10\/op=13 then [(1,0),(1,0)] else if op=12\/op=25 then [(1,0)] else if op=14\/op=19 then [(3,0)]
 else if op=17 then [(3,(F.getD n.toNat ⟨0,0,(0,0)⟩).owner)] else if op=18 then [(3,(F.getD n.toNat ⟨0,0,(0,0)⟩).owner),(F.getD n.toNat ⟨0,0,(0,0)⟩).t]
 else if op=20 then (ms.getD n.toNat ⟨0,0,[],(0,0),0,0,[],[],[]⟩).params else if op=21 then (3,(ms.getD n.toNat ⟨0,0,[],(0,0),0,0,[],[],[]⟩).cl)::(ms.getD n.toNat ⟨0,0,[],(0,0),0,0,[],[],[]⟩).params
 else if op=22 then Ds res else if op=23 then [(3,1)] else []
def Dp (F:List Rf.Fld)(ms:List Rd.Mth)(op n:Int):List (Int × Int) :=
 if op=0\/op=7\/op=8\/op=9\/op=10\/op=24 then [(1,0)] else if op=1 then [(2,0)] else if op=17 then [(F.getD n.toNat ⟨0,0,(0,0)⟩).t]
 else if op=19 then [(3,n)] else if op=20\/op=21 then Ds (ms.getD n.toNat ⟨0,0,[],(0,0),0,0,[],[],[]⟩).result else []
def Ez(l:List Rf.Fld)(k:Nat)(b:k<l.length)(j:Nat)(c:j<4):(Lk l)[k*4+j]?=[Value.int .i64 l[k].owner,.i l[k].slot,.i l[k].t.1,.i l[k].t.2][j]?/\k*4+j<(Lk l).length:=by
 refine⟨Nk (fun x:Rf.Fld=>[Value.int .i64 x.owner,.i x.slot,.i x.t.1,.i x.t.2]) 4 (fun _=>rfl) l k b j c,?_⟩;unfold Lk;rw[Kx (fun x:Rf.Fld=>[Value.int .i64 x.owner,.i x.slot,.i x.t.1,.i x.t.2]) 4 (fun _=>rfl) l];omega
def Bdm(b:List (Rf.Mth×K0))(q:Nat):(b.map fun x=>x.1.m).getD q ⟨0,0,[],(0,0),0,0,[],[],[]⟩=(b.getD q Sb).1.m:=by
 simp only[Vm,Bsf];cases b[q]? <;> rfl
def Zg(f:RFl)(m:RMV)(p:Nat)(w:TW)(hf:f.ok w)(hp:p<m.code.size)(hs:m.code.size<=100000)(a6:∀x∈f.ms,x.1.m.params.length<=1000) (b4:(Ca m.code).getD p 0=17\/(Ca m.code).getD p 0=18->0<=Rf.at' m.code.data.toList ((p:Int)+1)/\Rf.at' m.code.data.toList ((p:Int)+1)<(f.fields.length:Int)) (b5:(Ca m.code).getD p 0=20\/(Ca m.code).getD p 0=21->0<=Rf.at' m.code.data.toList ((p:Int)+1)/\Rf.at' m.code.data.toList ((p:Int)+1)<(f.ms.length:Int)):Calls prog 98 #[f.val,m.val,.i (p:Int)] w fun e w' => ∃a c,e=.r (.s a (Co f.fields (f.ms.map fun x=>x.1.m) (m.r1,m.r2) ((Ca m.code).getD p 0) (Rf.at' m.code.data.toList ((p:Int)+1))).length c)/\TyR w' (.s a (Co f.fields (f.ms.map fun x=>x.1.m) (m.r1,m.r2) ((Ca m.code).getD p 0) (Rf.at' m.code.data.toList ((p:Int)+1))).length c) (Co f.fields (f.ms.map fun x=>x.1.m) (m.r1,m.r2) ((Ca m.code).getD p 0) (Rf.at' m.code.data.toList ((p:Int)+1)))/\Bl w w':=by
 rw[Kq _ _ hp]at b4 b5 ⊢;have c0:=fun w=>Mz m p w hp hs;have c3:=fun w=>Zj m w;have b6:=fun w (h:f.ok w)=>N6 f.a1 f.a2 f.c1 f.ms.length f.c2 f.bb f.l w h.1 h.2.1 h.2.2.2.1 h.2.2.2.2.1;have c8:=hf;obtain⟨c9,d0,d1,d2,bb,l,G⟩:=f;obtain⟨cl,nm,pa,pl,pc,r1,r2,lo,st,v,ha,hl,hc,ma,ml,mc,j3,j4⟩:=m;simp only[RMV.val,RFl.val]at hp hs c0 b6 c3 b4 b5 a6 ⊢;have d3:(RFl.mk c9 d0 d1 d2 bb l G).fields=Rf.fieldsTo (Ct l) (l.map Prod.fst) (l.length-7):=rfl;rw[<- d3]at b6;generalize (RFl.mk c9 d0 d1 d2 bb l G).fields=z at *;generalize Rf.at' v.data.toList ((p:Int)+1)=n at *;generalize D:Co z (G.map fun x=>x.1.m) (r1,r2) (v[p].toNat:Int) n=R;have j5:(p:Int)<(v.size:Int):=Ck;have j6:∀c:UInt8,IntKind.i64.wrap (c.toNat:Int)=(c.toNat:Int):=fun c=>Cx _ Ck (by have:=c.toNat_lt;omega);have g0:=Bc c0;have g1:=Bc c3;have d4:=Bc b6;have b7:=Bc c8;have d5:=Bc b4;have d6:=Bc b5;have d7:=Bc a6;clear c0 c3 b6 c8 hf b4 b5 a6 d3;go_in;go_wp2_with fail;refine Qm (Ba g0 _) ?_;intro w1 b8;have J:=(Bu w _ _).trans (b8.mono Fr);have CF:=stay b8 (Cb w _ _);have CM:=stay b8 (Bx w _ _);obtain⟨m0,m1,m2,m3,m4,m5,m6,m7,m8,m9,g2,g3⟩:=El CM;obtain⟨f0,f1⟩:=cl2 CF;simp at f0 f1 m0 m1 m2 m3 m4 m5 m6 m7 m8 m9 g2 g3;have lF:=Sp CF;have lM:=Sp CM;have a4:=J.size;clear b8;by_cases b:(v[p].toNat:Int)=7\/(v[p].toNat:Int)=8\/(v[p].toNat:Int)=9\/(v[p].toNat:Int)=10\/(v[p].toNat:Int)=13
 ·rcases b with b|b|b|b|b
  all_goals
   have A:Hid (R=[(1,0),(1,0)]):=by unfold Hid;rw[<- D];unfold Co;rw[b];simp
   clear D;have hn:=TyR.new2 w1 1 0 1 0;go_wp2;go_ret;obtain rfl:=Ba A;exact⟨_,_,rfl,hn,J.alloc a4 _⟩
 have n7:((v[p].toNat:Int)==7)=false:=Fr;have n8:((v[p].toNat:Int)==8)=false:=Fr;have n9:((v[p].toNat:Int)==9)=false:=Fr;have j7:((v[p].toNat:Int)==10)=false:=Fr;have j8:((v[p].toNat:Int)==13)=false:=Fr;have i7:=b;clear b;by_cases b:(v[p].toNat:Int)=12\/(v[p].toNat:Int)=25
 ·rcases b with b|b
  all_goals
   have A:Hid (R=[(1,0)]):=by unfold Hid;rw[<- D];unfold Co;rw[b];simp
   clear D;go_wp2_with fail;refine(Ym 1 _).mono ?_;rintro e I ⟨a,c,rfl,ht,F⟩;go_wp2;go_ret;obtain rfl:=Ba A;exact⟨a,c,rfl,ht,J.trans (F.mono a4)⟩
 have j9:((v[p].toNat:Int)==12)=false:=Fr;have k0:((v[p].toNat:Int)==25)=false:=Fr;have g4:=b;clear b;by_cases b:(v[p].toNat:Int)=14\/(v[p].toNat:Int)=19
 ·rcases b with b|b
  all_goals
   have A:Hid (R=[(3,0)]):=by unfold Hid;rw[<- D];unfold Co;rw[b];simp
   clear D;go_wp2_with fail;refine Qm (Lb 0 _) ?_;intro I F;have L:=J.trans (F.mono a4);have hn:=TyR.new1 I 3 0;go_wp2;go_ret;obtain rfl:=Ba A;exact⟨_,_,rfl,hn,L.alloc L.size _⟩
 have k1:((v[p].toNat:Int)==14)=false:=Fr;have k2:((v[p].toNat:Int)==19)=false:=Fr;have g5:=b;clear b;by_cases b:(v[p].toNat:Int)=17
 ·have hq:=Ba d5 (by rw[b];simp);obtain⟨q,rfl⟩:=Brp hq.1;have K:q<z.length:=Ck;have c4:(q:Int)<(z.length:Int):=Ck;have A:Hid (R=[(3,(z.getD q ⟨0,0,(0,0)⟩).owner)]):=by unfold Hid;rw[<- D];unfold Co;rw[b];simp[-List.getD_eq_getElem?_getD]
  clear D;go_wp2_with fail;refine(Ba d4 _ ((Ba b7).below J)).mono ?_;rintro e I ⟨va,vc,rfl,a9,F⟩;have L:=J.trans (F.mono a4);have b0:=L.size;obtain⟨g,hg,N,_,a0⟩:=Cf a9 Ck;have Q:=(a0 _ (Ez z q K 0 Ck).2).trans (Ez z q K 0 Ck).1;have O:=(a0 _ (Ez z q K 2 Ck).2).trans (Ez z q K 2 Ck).1;have V:=(a0 _ (Ez z q K 3 Ck).2).trans (Ez z q K 3 Ck).1;simp at Q O V;have b1:z.getD q ⟨0,0,(0,0)⟩=z[q]:=by simp[Vm,K]
  have B:=Ba A;rw[b1]at B;generalize z[q]=fd at *;obtain⟨fo,fs,c5,c6⟩:=fd;simp only at Q O V B;have a7:=Bc B;clear a0 a9 b1 B A;subst hg;go_wp2_with fail;refine Qm (Lb fo _) ?_;intro w3 g6;have b9:=L.trans (g6.mono b0);have hn:=TyR.new1 w3 3 fo;go_wp2;go_ret;obtain rfl:=Ba a7;exact⟨_,_,rfl,hn,b9.alloc b9.size _⟩
 have k3:((v[p].toNat:Int)==17)=false:=Fr;have g7:=b;clear b;by_cases b:(v[p].toNat:Int)=18
 ·have hq:=Ba d5 (by rw[b];simp);obtain⟨q,rfl⟩:=Brp hq.1;have K:q<z.length:=Ck;have c4:(q:Int)<(z.length:Int):=Ck;have A:Hid (R=[(3,(z.getD q ⟨0,0,(0,0)⟩).owner),(z.getD q ⟨0,0,(0,0)⟩).t]):=by unfold Hid;rw[<- D];unfold Co;rw[b];simp[-List.getD_eq_getElem?_getD]
  clear D;go_wp2_with fail;refine(Ba d4 _ ((Ba b7).below J)).mono ?_;rintro e I ⟨va,vc,rfl,a9,F⟩;have L:=J.trans (F.mono a4);have b0:=L.size;obtain⟨g,hg,N,_,a0⟩:=Cf a9 Ck;have Q:=(a0 _ (Ez z q K 0 Ck).2).trans (Ez z q K 0 Ck).1;have O:=(a0 _ (Ez z q K 2 Ck).2).trans (Ez z q K 2 Ck).1;have V:=(a0 _ (Ez z q K 3 Ck).2).trans (Ez z q K 3 Ck).1;simp at Q O V;have b1:z.getD q ⟨0,0,(0,0)⟩=z[q]:=by simp[Vm,K]
  have B:=Ba A;rw[b1]at B;generalize z[q]=fd at *;obtain⟨fo,fs,c5,c6⟩:=fd;simp only at Q O V B;have a7:=Bc B;clear a0 a9 b1 B A;subst hg;have d8:=fun w=>Lb fo w;have g8:=Bc d8;clear d8;go_wp2
  go_region_held3 (fun w'=>w'.C g (q*4) (.i fo)/\w'.C g (q*4+2) (.i c5)/\w'.C g (q*4+3) (.i c6))
   (first|exact⟨Q,O,V⟩|exact⟨QC Z N Q,QC Z N O,QC Z N V⟩|exact⟨(QA (QL Z N) (QC Z N Q)),(QA (QL Z N) (QC Z N O)),(QA (QL Z N) (QC Z N V))⟩)
   (first|(go_at_call 142;refine(Ba g8 _).mono ?_;rintro e w7 ⟨rfl,Z⟩))
  have d9:=L.drew.trans (Z.mono b0);have hn:=TyR.new2 w7 3 fo c5 c6;go_wp2;go_ret;obtain rfl:=Ba a7;exact⟨_,_,rfl,hn,d9.alloc d9.size _⟩
 have k4:((v[p].toNat:Int)==18)=false:=Fr;have g9:=b;clear b;by_cases b:(v[p].toNat:Int)=20
 ·have hq:=Ba d6 (by rw[b];simp);obtain⟨q,rfl⟩:=Brp hq.1;have a3:q<G.length:=Ck;have c4:(q:Int)<(G.length:Int):=Ck;have A:Hid (R=(G.getD q Sb).1.m.params):=by unfold Hid;rw[<- D];unfold Co;rw[b];simp[-List.getD_eq_getElem?_getD,Bdm]
  clear D;obtain⟨o,g,hg,N,Y,a8⟩:=RFl.mth ((Ba b7).below J) a3;simp only at hg Y a8 a3;replace Y:=Oe Y;have b2:G.getD q Sb=G[q]:=by simp[Vm,a3]
  have B:=Ba A;rw[b2]at B;have a6:=Ba d7 _ (Brn a3);generalize G[q]=md at *;obtain⟨md,mu⟩:=md;simp only at a8 B a6;obtain⟨e1,-,e3,e4,-,-,-,-,e9,b3,-,-,-,-,-⟩:=a8;have c7:md.m.result=(o.r1,o.r2):=by rw[e3,e4]
  generalize md.m.params=ps at *;obtain⟨a5,h0,f2,h1,f3,h2,h3,h4,h5,h6,h7,h8,h9,i0,i1,i2,i3,i4⟩:=o;simp only at e9 b3 B Y;subst e9;obtain⟨Q,y1,O,V,y4,y5,y6,y7,y8,y9,f4,f5⟩:=Y;have a7:=Bc B;clear b2 B A c7 e1 e3 e4;subst hg;go_wp2;go_ret;obtain rfl:=Ba a7;exact⟨_,_,rfl,TyR.of_tys b3,J⟩
 have k5:((v[p].toNat:Int)==20)=false:=Fr;have i5:=b;clear b;by_cases b:(v[p].toNat:Int)=21
 ·have hq:=Ba d6 (by rw[b];simp);obtain⟨q,rfl⟩:=Brp hq.1;have a3:q<G.length:=Ck;have c4:(q:Int)<(G.length:Int):=Ck;have A:Hid (R=(3,(G.getD q Sb).1.m.cl)::(G.getD q Sb).1.m.params):=by unfold Hid;rw[<- D];unfold Co;rw[b];simp[-List.getD_eq_getElem?_getD,Bdm]
  clear D;obtain⟨o,g,hg,N,Y,a8⟩:=RFl.mth ((Ba b7).below J) a3;simp only at hg Y a8 a3;replace Y:=Oe Y;have b2:G.getD q Sb=G[q]:=by simp[Vm,a3]
  have B:=Ba A;rw[b2]at B;have a6:=Ba d7 _ (Brn a3);generalize G[q]=md at *;obtain⟨md,mu⟩:=md;simp only at a8 B a6;obtain⟨e1,-,e3,e4,-,-,-,-,e9,b3,-,-,-,-,-⟩:=a8;have c7:md.m.result=(o.r1,o.r2):=by rw[e3,e4]
  rw[<- e1]at B;generalize md.m.params=ps at *;obtain⟨a5,h0,f2,h1,f3,h2,h3,h4,h5,h6,h7,h8,h9,i0,i1,i2,i3,i4⟩:=o;simp only at e9 b3 B Y;subst e9;obtain⟨Q,y1,O,V,y4,y5,y6,y7,y8,y9,f4,f5⟩:=Y;have a7:=Bc B;clear b2 B A c7 e1 e3 e4;subst hg;go_wp2_with fail;refine Qm (Lb a5 _) ?_;intro I F;have L:=J.trans (F.mono a4);have b0:=L.size;have f6:=stay F CF;have i6:=Bb f6 1;have k6:=Sp f6;simp at i6;have k7:g<I.heap.size:=Brs N F.size;have k8:=(F.cell (p:=.a g (q*12+2)) N).trans O;have i8:Bl I (I.alloc (O7 3 a5)):=QN _;have i9:=((TyR.of_tys b3).below F).below i8;have f7:(I.alloc (O7 3 a5)).ownsRow I.heap.size 31 2 (.s (.p I.heap.size) 1 1) ([((3:Int),a5)]:TP).length (Bp [((3:Int),a5)]) :=
   ⟨rfl,.inr ⟨I.heap.size,1,_,rfl,Bru _,Be _ _,Hd,Pf,rfl,rfl⟩⟩
  clear F Q y1 O V y4 y5 y6 y7 y8 y9 f4 f5;go_wp2_with (at_builtin;refine Jo rfl _ _ rfl I.heap.size _ [(3,a5)] ps f2 ps.length f3 rfl f7 rfl i9 Fr Hd ?_)
  intro v' w3 f8 f9;obtain⟨va,vc,rfl⟩:=Bh f8;have b9:=(L.alloc b0 (O7 3 a5)).grown f9 Fr (fun j hj=>by have:=(f7.lt j hj).1;omega);clear f9;go_wp2;go_ret;obtain rfl:=Ba a7;exact⟨va,vc,Hd,Gw (by simpa using f8) Hd,b9⟩
 have k9:((v[p].toNat:Int)==21)=false:=Fr;have j0:=b;clear b;by_cases b:(v[p].toNat:Int)=22
 ·have A:Hid (R=Ds (r1,r2)):=by unfold Hid;rw[<- D];unfold Co;rw[b];simp
  clear D;go_wp2_with fail;refine(Ba g1 _).mono ?_;rintro e I ⟨a,c,rfl,ht,F⟩;go_wp2;go_ret;obtain rfl:=Ba A;exact⟨a,c,rfl,ht,J.trans (F.mono a4)⟩
 have l0:((v[p].toNat:Int)==22)=false:=Fr;have j1:=b;clear b;by_cases b:(v[p].toNat:Int)=23
 ·have A:Hid (R=[(3,1)]):=by unfold Hid;rw[<- D];unfold Co;rw[b];simp
  clear D;go_wp2_with fail;refine Qm (Lb 1 _) ?_;intro I F;have L:=J.trans (F.mono a4);have hn:=TyR.new1 I 3 1;go_wp2;go_ret;obtain rfl:=Ba A;exact⟨_,_,rfl,hn,L.alloc L.size _⟩
 have l1:((v[p].toNat:Int)==23)=false:=Fr;have j2:=b;clear b;have A:Hid (R=[]):=by
  unfold Hid;rw[<- D];unfold Co;rw[Pk Ck,Pk Ck,Pk Ck,Pk Ck,Pk Ck,Pk Ck,Pk Ck,Pk Ck,Pk Ck]
 clear D i7 g4 g5 g7 g9 i5 j0 j1 j2;go_wp2;go_ret;obtain rfl:=Ba A;exact⟨none,0,rfl,TyR.nil _,J⟩
def Bep(f:RFl)(m:RMV)(p:Nat)(w:TW)(hf:f.ok w)(hp:p<m.code.size)(hs:m.code.size<=100000)(J:∀x∈f.ms,x.1.m.params.length<=1000) (Q:(Ca m.code).getD p 0=17\/(Ca m.code).getD p 0=18->0<=Rf.at' m.code.data.toList ((p:Int)+1)/\Rf.at' m.code.data.toList ((p:Int)+1)<(f.fields.length:Int)) (V:(Ca m.code).getD p 0=20\/(Ca m.code).getD p 0=21->0<=Rf.at' m.code.data.toList ((p:Int)+1)/\Rf.at' m.code.data.toList ((p:Int)+1)<(f.ms.length:Int)):Calls prog 299 #[f.val,m.val,.i (p:Int)] w fun e w' => ∃a c,e=.r (.s a (Dp f.fields (f.ms.map fun x=>x.1.m) ((Ca m.code).getD p 0) (Rf.at' m.code.data.toList ((p:Int)+1))).length c)/\TyR w' (.s a (Dp f.fields (f.ms.map fun x=>x.1.m) ((Ca m.code).getD p 0) (Rf.at' m.code.data.toList ((p:Int)+1))).length c) (Dp f.fields (f.ms.map fun x=>x.1.m) ((Ca m.code).getD p 0) (Rf.at' m.code.data.toList ((p:Int)+1)))/\Bl w w':=by
 rw[Kq _ _ hp]at Q V ⊢;have a4:=fun w=>Mz m p w hp hs;have Y:=fun w (h:f.ok w)=>N6 f.a1 f.a2 f.c1 f.ms.length f.c2 f.bb f.l w h.1 h.2.1 h.2.2.2.1 h.2.2.2.2.1;have a8:=hf;obtain⟨a9,b0,b1,b2,bb,l,C⟩:=f;obtain⟨cl,nm,pa,pl,pc,r1,r2,lo,st,j,ha,hl,hc,ma,ml,mc,g7,g8⟩:=m;simp only[RMV.val,RFl.val]at hp hs a4 Y Q V J ⊢;have b3:(RFl.mk a9 b0 b1 b2 bb l C).fields=Rf.fieldsTo (Ct l) (l.map Prod.fst) (l.length-7):=rfl;rw[<- b3]at Y;generalize (RFl.mk a9 b0 b1 b2 bb l C).fields=v at *;generalize Rf.at' j.data.toList ((p:Int)+1)=n at *;generalize A:Dp v (C.map fun x=>x.1.m) (j[p].toNat:Int) n=R;have g9:(p:Int)<(j.size:Int):=Ck;have h0:∀c:UInt8,IntKind.i64.wrap (c.toNat:Int)=(c.toNat:Int):=fun c=>Cx _ Ck (by have:=c.toNat_lt;omega);have b9:=Bc a4;have c0:=Bc Y;have b4:=Bc a8;have c3:=Bc Q;have c4:=Bc V;have c5:=Bc J;clear a4 Y a8 hf Q V J b3;go_in;go_wp2_with fail;refine Qm (Ba b9 _) ?_;intro w1 Z;have D:=(Bu w _ _).trans (Z.mono Fr);have CF:=stay Z (Cb w _ _);have CM:=stay Z (Bx w _ _);obtain⟨m0,m1,m2,m3,m4,m5,m6,m7,m8,m9,c6,c7⟩:=El CM;obtain⟨f0,f1⟩:=cl2 CF;simp at f0 f1 m0 m1 m2 m3 m4 m5 m6 m7 m8 m9 c6 c7;have lF:=Sp CF;have lM:=Sp CM;have K:=D.size;clear Z;by_cases b:(j[p].toNat:Int)=0\/(j[p].toNat:Int)=7\/(j[p].toNat:Int)=8\/(j[p].toNat:Int)=9\/(j[p].toNat:Int)=10\/(j[p].toNat:Int)=24
 ·rcases b with b|b|b|b|b|b
  all_goals
   have z:Hid (R=[(1,0)]):=by unfold Hid;rw[<- A];unfold Dp;rw[b];simp
   clear A;go_wp2_with fail;refine(Ym 1 _).mono ?_;rintro e I ⟨a,c,rfl,L,F⟩;go_wp2;go_ret;obtain rfl:=Ba z;exact⟨a,c,rfl,L,D.trans (F.mono K)⟩
 have n0:((j[p].toNat:Int)==0)=false:=Fr;have n7:((j[p].toNat:Int)==7)=false:=Fr;have n8:((j[p].toNat:Int)==8)=false:=Fr;have n9:((j[p].toNat:Int)==9)=false:=Fr;have h1:((j[p].toNat:Int)==10)=false:=Fr;have h2:((j[p].toNat:Int)==24)=false:=Fr;have i0:=b;clear b;by_cases b:(j[p].toNat:Int)=1
 ·have z:Hid (R=[(2,0)]):=by unfold Hid;rw[<- A];unfold Dp;rw[b];simp
  clear A;go_wp2_with fail;refine(Ym 2 _).mono ?_;rintro e I ⟨a,c,rfl,L,F⟩;go_wp2;go_ret;obtain rfl:=Ba z;exact⟨a,c,rfl,L,D.trans (F.mono K)⟩
 have n1:((j[p].toNat:Int)==1)=false:=Fr;have i1:=b;clear b;by_cases b:(j[p].toNat:Int)=17
 ·have hq:=Ba c3 (by rw[b];simp);obtain⟨q,rfl⟩:=Brp hq.1;have G:q<v.length:=Ck;have c8:(q:Int)<(v.length:Int):=Ck;have z:Hid (R=[(v.getD q ⟨0,0,(0,0)⟩).t]):=by unfold Hid;rw[<- A];unfold Dp;rw[b];simp[-List.getD_eq_getElem?_getD]
  clear A;go_wp2_with fail;refine(Ba c0 _ ((Ba b4).below D)).mono ?_;rintro e I ⟨va,vc,rfl,b5,F⟩;have N:=D.trans (F.mono K);have c9:=N.size;obtain⟨g,hg,d0,_,a0⟩:=Cf b5 Ck;have y0:=(a0 _ (Ez v q G 0 Ck).2).trans (Ez v q G 0 Ck).1;have y2:=(a0 _ (Ez v q G 2 Ck).2).trans (Ez v q G 2 Ck).1;have y3:=(a0 _ (Ez v q G 3 Ck).2).trans (Ez v q G 3 Ck).1;simp at y0 y2 y3;have b6:v.getD q ⟨0,0,(0,0)⟩=v[q]:=by simp[Vm,G]
  have B:=Ba z;rw[b6]at B;generalize v[q]=fd at *;obtain⟨fo,fs,d1,d2⟩:=fd;simp only at y0 y2 y3 B;have a5:=Bc B;clear a0 b5 b6 B z;subst hg;have hn:=TyR.new1 I d1 d2;go_wp2;go_ret;obtain rfl:=Ba a5;exact⟨_,_,rfl,hn,N.alloc c9 _⟩
 have h3:((j[p].toNat:Int)==17)=false:=Fr;have d3:=b;clear b;by_cases b:(j[p].toNat:Int)=19
 ·have z:Hid (R=[(3,n)]):=by unfold Hid;rw[<- A];unfold Dp;rw[b];simp
  clear A;go_wp2_with fail;refine Qm (Lb n _) ?_;intro I F;have N:=D.trans (F.mono K);have hn:=TyR.new1 I 3 n;go_wp2;go_ret;obtain rfl:=Ba z;exact⟨_,_,rfl,hn,N.alloc N.size _⟩
 have h4:((j[p].toNat:Int)==19)=false:=Fr;have d4:=b;clear b;by_cases b:(j[p].toNat:Int)=20\/(j[p].toNat:Int)=21
 ·rcases b with b|b
  all_goals
   have hq:=Ba c4 (by rw[b];simp);obtain⟨q,rfl⟩:=Brp hq.1;have a3:q<C.length:=Ck;have c8:(q:Int)<(C.length:Int):=Ck;have z:Hid (R=Ds (C.getD q Sb).1.m.result):=by unfold Hid;rw[<- A];unfold Dp;rw[b];simp[-List.getD_eq_getElem?_getD,Bdm]
   clear A;obtain⟨o,g,hg,d0,O,a6⟩:=RFl.mth ((Ba b4).below D) a3;simp only at hg O a6 a3;replace O:=Oe O;have b7:C.getD q Sb=C[q]:=by simp[Vm,a3]
   have B:=Ba z;rw[b7]at B;have J:=Ba c5 _ (Brn a3);generalize C[q]=md at *;obtain⟨md,mu⟩:=md;simp only at a6 B J;obtain⟨e1,-,e3,e4,-,-,-,-,e9,d5,-,-,-,-,-⟩:=a6;have b8:md.m.result=(o.r1,o.r2):=by rw[e3,e4]
   rw[b8]at B;generalize md.m.params=ps at *;obtain⟨d6,d7,d8,h5,d9,f2,f3,f4,f5,f6,f7,f8,f9,g0,g1,g2,g3,g4⟩:=o;simp only at e9 d5 B O;subst e9;obtain⟨y0,y1,y2,y3,y4,y5,y6,y7,y8,y9,h6,h7⟩:=O;have a5:=Bc B;clear b7 B z b8 e1 e3 e4;subst hg;have a7:=fun w=>Zj ⟨d6,d7,d8,ps.length,d9,f2,f3,f4,f5,f6,f7,f8,f9,g0,g1,g2,g3,g4⟩ w;simp only[RMV.val]at a7;have g5:=Bc a7;clear a7;go_wp2_with fail;refine(Ba g5 _).mono ?_;rintro e I ⟨a,c,rfl,L,F⟩;go_wp2;go_ret;obtain rfl:=Ba a5;exact⟨a,c,rfl,L,D.trans (F.mono K)⟩
 have h8:((j[p].toNat:Int)==20)=false:=Fr;have h9:((j[p].toNat:Int)==21)=false:=Fr;have g6:=b;clear b;have z:Hid (R=[]):=by
  unfold Hid;rw[<- A];unfold Dp;rw[Pk Ck,Pk Ck,Pk Ck,Pk Ck,Pk Ck]
 clear A i0 i1 d3 d4 g6;go_wp2;go_ret;obtain rfl:=Ba z;exact⟨none,0,rfl,TyR.nil _,D⟩
def Ns (T:TI)(want:TP)(arg:Int->Int)(c:Int)(x:Bf):Option Bf :=
 if Ey T x.stack want=false then none else if x.stack.length<want.length+1 then none
 else if (x.stack.getD (x.stack.length-want.length-1) (0,0)).1≠4 then none
 else if arg (x.stack.getD (x.stack.length-want.length-1) (0,0)).2≠c then none
 else some ⟨Ci (x.stack.getD (x.stack.length-want.length-1) (0,0)) (3,c) x.locals,Ci (x.stack.getD (x.stack.length-want.length-1) (0,0)) (3,c) (x.stack.take (x.stack.length-want.length-1))⟩
def Bl5(f:RFl)(m:RMV)(c:Nat)(v:FrV)(x:Bf)(w:TW)(hf:f.ok w)(hc:c<f.l.length)(hs:m.code.size<=100000)(hv:v.is x w)(j8:x.locals.length<=1000)(j9:x.stack.length<=1000) (c6:∀t∈x.stack,t.1=4->0<=t.2/\t.2<(m.code.size:Int)):Calls prog 298 #[f.val,m.val,.i (c:Int),v.val] w fun e j => ∃u:FrV,e=.r (.tuple #[u.val,.bool (Ns f.T (Rf.all f.T (f.l.map Prod.fst) c) (fun q=>Rf.at' m.code.data.toList (q+1)) (c:Int) x).isSome])/\(∀y,Ns f.T (Rf.all f.T (f.l.map Prod.fst) c) (fun q=>Rf.at' m.code.data.toList (q+1)) (c:Int) x=some y->u.is y j)/\Bl w j:=by
 have b7:=fun j (h:Bl w j)=>Yq f.a1 f.a2 f.c1 f.ms.length f.c2 f.bb f.l c j hf.1 hc hf.2.2.2.1 (hf.below h).2.2.2.2.1;have f3:=fun K a2 n2 c2 j (h:Bl w j) h2 hw=>Vn f.v f.T x.stack K v.sa a2 v.sn v.sc n2 c2 j (RFl.fitsAs (hf.below h)) (hv.st.below h) h2 Ck hw;have c7:=fun q j hq=>Mz m q j hq hs;have f4:Ct f.l=f.T:=rfl;rw[f4]at b7;have i0:=W3 f.T (f.l.map Prod.fst) (c:Int) (by intro p hp;obtain⟨z,hz,rfl⟩:=List.mem_map.1 hp;exact hf.2.2.2.1 z hz) (c+1);have k0:(Rf.all f.T (f.l.map Prod.fst) c).length<=14000:=by unfold Rf.all;have:=hf.1;omega
 have e1:=hv.lo.cap.1;have e2:=hv.st.cap.1;have i1:=hv.st.cap.2.1;have f5:=hv.lo;have c8:=hv.st;generalize Rf.all f.T (f.l.map Prod.fst) c=K at *;generalize B:Ns f.T K (fun q=>Rf.at' m.code.data.toList (q+1)) (c:Int) x=R;unfold Ns at B;have c9:=fun a2 n2 c2 j h h2=>f3 K a2 n2 c2 j h h2 Ck;generalize Ey f.T x.stack K=TP at *;have k3:c<=13:=by have:=hf.1;omega
 clear f3 i0 f4 hf hv hc;obtain⟨f6,f7,f8,f9,bb,l,ms⟩:=f;obtain⟨cl,nm,pa,pl,pc,r1,r2,lo,st,b8,ha,hl,hc,ma,ml,mc,g0,g1⟩:=m;obtain⟨V,ln,Y,sa,sn,L⟩:=v;simp only[RMV.val,RFl.val,RFl.v,RFv.val,FrV.val]at b7 c9 c7 e1 e2 i1 f5 c8 c6 B hs ⊢;subst e1 e2;have i2:=Bc b7;have i3:=Bc c9;have g2:=Bc c7;have i4:=Bc c6;clear b7 c9 c7 c6;have d0:=U9 w (O11 f6 l.length f7 f8 ms.length f9) (O12 cl nm pa pl pc r1 r2 lo st b8 ha hl hc ma ml mc g0 g1) (O21 V x.locals.length Y sa x.stack.length L) (O21 none 0 0 none 0 0);obtain⟨F0,M0,X0,Z0⟩:=Ai w (O11 f6 l.length f7 f8 ms.length f9) (O12 cl nm pa pl pc r1 r2 lo st b8 ha hl hc ma ml mc g0 g1) (O21 V x.locals.length Y sa x.stack.length L) (O21 none 0 0 none 0 0);go_in;go_wp2_with fail;refine(Ba i2 _ d0).mono ?_;rintro e w1 ⟨wa,wc,rfl,i5,a6⟩;have d1:=QB d0 a6;have F1:=stay a6 F0;have M1:=stay a6 M0;have X1:=stay a6 X0;have Z1:=stay a6 Z0;obtain⟨f0,f1⟩:=cl2 F1;obtain⟨G,F⟩:=cl2 X1;have lF:=Sp F1;have Q:=Sp X1;simp at f0 f1 G F;clear a6 F0 M0 X0 Z0 d0;go_wp2_with fail;refine Qb (Ba i3 wa K.length wc _ d1 (TyR.of_tys i5)) d1 ?_;intro w2 a9 N;have F2:=stay a9 F1;have M2:=stay a9 M1;have X2:=stay a9 X1;have O:=stay a9 Z1;have g3:=N.size;clear f0 f1 G F lF Q;obtain⟨G,F⟩:=cl2 X2;have Q:=Sp X2;simp at G F;clear a9 F1 M1 X1 Z1 d1;by_cases h1:TP=false;·subst h1;rw[Th rfl]at B;have HE:=Bc B.symm;clear B;obtain⟨I,J⟩:=cl2 O;obtain⟨q0,q1⟩:=fr2 O;have lZ:=Sp O;simp at I J;go_wp2_with fail;refine tb (.tuple #[.agg #[.s V x.locals.length Y,.s sa x.stack.length L],.bool false]) (by simp[results,Bu3,go_sem,I,J]) ?_;obtain rfl:=Ba HE;exact⟨⟨V,x.locals.length,Y,sa,x.stack.length,L⟩,rfl,fun y hy=>by simp at hy,(N.setCell Fr _).setCell Fr _⟩
 have i6:TP=true:=by simpa using h1
 subst i6;rw[Pk Hd]at B;clear h1;by_cases h2:x.stack.length<K.length+1;·rw[Th h2]at B;have HE:=Bc B.symm;have k4:(x.stack.length:Int)-(K.length:Int)-1<0:=Ck;clear B h2;obtain⟨I,J⟩:=cl2 O;obtain⟨q0,q1⟩:=fr2 O;have lZ:=Sp O;simp at I J;go_wp2_with fail;refine tb (.tuple #[.agg #[.s V x.locals.length Y,.s sa x.stack.length L],.bool false]) (by simp[results,Bu3,go_sem,I,J]) ?_;obtain rfl:=Ba HE;exact⟨⟨V,x.locals.length,Y,sa,x.stack.length,L⟩,rfl,fun y hy=>by simp at hy,(N.setCell Fr _).setCell Fr _⟩
 rw[Pk h2]at B;obtain⟨D,i7⟩:∃D:Nat,x.stack.length=D+K.length+1:=⟨x.stack.length-K.length-1,Ck⟩;have e0:x.stack.length-K.length-1=D:=Ck;rw[e0]at B;have d2:D<x.stack.length:=Ck;have g4:x.stack.getD D (0,0)=x.stack[D]:=by simp[Vm,d2]
 rw[g4]at B;have b9:=Ba i4 _ (Brn d2);have i8:(x.stack.length:Int)-(K.length:Int)-1=(D:Int):=Ck;have k5:IntKind.i64.wrap ((x.stack.length:Int)-(K.length:Int)-1)=(D:Int):=by rw[i8];exact Cx _ Ck Ck
 have k6:(D:Int)<(x.stack.length:Int):=Ck;have k7:(D:Int)<=(L:Int):=Ck;obtain⟨gs,os,rfl,a3,g5⟩:=c8.at Ck;obtain⟨s0,s1⟩:=g5 D d2;generalize x.stack[D]=i9 at *;obtain⟨k1,k2⟩:=i9;simp only at s0 s1 B b9;have S0:Hid (∀j,Bl w j->j.C gs (os+D*2) (.i k1)/\j.C gs (os+D*2+1) (.i k2)/\gs<j.heap.size):=fun j h=>⟨(h.cell a3).trans s0,(h.cell a3).trans s1,Brs a3 h.size⟩;clear s0 s1 g5 e0 g4 h2 i7 a3;by_cases h3:k1=4
 ·subst h3;rw[Pk Hd]at B;obtain⟨g6,j0⟩:=b9 rfl;obtain⟨q,rfl⟩:=Brp g6;have hq:q<b8.size:=Ck;obtain⟨A,hA⟩:∃A,Rf.at' b8.data.toList ((q:Int)+1)=A:=⟨_,rfl⟩;simp only[hA]at B;have d3:=fun j=>Ba g2 q j hq;rw[hA]at d3;have g7:=Bc d3;clear hA d3 g6 j0 b9 g2;by_cases h4:A=(c:Int)
  ·subst h4;rw[Pk Hd]at B;have HE:=Bc B.symm;clear B;obtain⟨s0,s1,a3⟩:=Ba S0 _ N;have b0:=N.size;have R2:=Be w2 (O7 4 (q:Int));have a4:=N.alloc b0 (O7 4 (q:Int));have d4:=Bg F2 (O7 4 (q:Int));have d5:=Bg M2 (O7 4 (q:Int));have b1:=Bg X2 (O7 4 (q:Int));have b2:=Bg O (O7 4 (q:Int));have lM:=Sp M2;obtain⟨m0,m1,m2,m3,m4,m5,m6,m7,m8,m9,b3,b4⟩:=El M2;simp at m0 m1 m2 m3 m4 m5 m6 m7 m8 m9 b3 b4;go_wp2_with fail;refine Qm (Ba g7 _) ?_;intro w3 Z;have a7:=a4.trans (Z.mono a4.size);have R3:=stay Z R2;have X3:=stay Z b1;have Z3:=stay Z b2;have d6:=a7.size;clear m0 m1 m2 m3 m4 m5 m6 m7 m8 m9 b3 b4 lM G F Q s0 s1 Z F2 M2 X2 O d4 d5 b1 b2 R2 a4 g3 b0 N;obtain⟨G,F⟩:=cl2 X3;have Q:=Sp X3;have lR:=Sp R3;simp at G F;obtain⟨b5,b6⟩:=cl2 R3;simp at b5 b6;go_wp2_with fail;refine Qm (Lb (c:Int) _) ?_;intro w4 a5;have d7:=a7.trans (a5.mono d6);have g8:=d7.size;have O4:=Be w4 (O7 3 (c:Int));have c0:=d7.alloc g8 (O7 3 (c:Int));have R4:=Bg (stay a5 R3) (O7 3 (c:Int));have X4:=Bg (stay a5 X3) (O7 3 (c:Int));have Z4:=Bg (stay a5 Z3) (O7 3 (c:Int));have j1:w.heap.size+1+1+1<(w4.alloc (O7 3 (c:Int))).heap.size:=Sp Z4;have c3:=stay a5 R3;have d8:=stay a5 X3;clear b5 b6 G F Q lR a5 R3 X3 Z3 a7 d6;have G:=Bb d8 0;have b5:=Bb c3 0;have b6:=Bb c3 1;have Q:=Sp d8;have lR:=Sp c3;simp at G b5 b6;go_wp2_with fail;refine(Rl x.locals V x.locals.length Y 4 (q:Int) 3 (c:Int) _ (f5.below c0) Ck).mono ?_;rintro e w5 ⟨ta,tc,rfl,g9,a8⟩;have c4:=c0.trans (a8.mono c0.size);have j2:=c4.size;have R5:=stay a8 R4;have X5:=stay a8 X4;have Z5:=stay a8 Z4;have O5:=stay a8 O4;clear G b5 b6 Q lR a8 R4 X4 Z4 O4 c3 d8 d7 c0 g8;have F:=Bb X5 1;have r0:=Bb R5 0;have c5:=Bb R5 1;obtain⟨o0,o1⟩:=cl2 O5;have Q:=Sp X5;have lR:=Sp R5;have lO:=Sp O5;simp at F r0 c5 o0 o1;have h0:=(c8.below c4.drew).take (k:=D) Ck;have h5:(x.stack.take D).length=D:=Fr;have d9:=Rl (x.stack.take D) (some ⟨gs,os,none⟩) D L 4 (q:Int) 3 (c:Int) w5.drew h0 Ck;rw[h5]at d9;have h6:=Bc d9;clear d9 h0 h5;go_wp2
   go_region_held3 (fun j=>j.C (w.heap.size+1+1) 1 (.s (some ⟨gs,os,none⟩) x.stack.length L)/\j.C w2.heap.size 0 (.i 4)/\j.C w2.heap.size 1 (.i (q:Int))/\j.C w4.heap.size 0 (.i 3)/\j.C w4.heap.size 1 (.i (c:Int)))
    (first|exact⟨F,r0,c5,o0,o1⟩|exact⟨QC a0 Q F,QC a0 lR r0,QC a0 lR c5,QC a0 lO o0,QC a0 lO o1⟩)
    (first|(go_at_call 297;refine(Ba h6).mono ?_;rintro e w7 ⟨ua,uc,rfl,h7,a0⟩))
   have j3:=c4.drew.trans (a0.mono j2);have j4:w.heap.size+1+1+1<w5.heap.size:=Sp Z5;have h8:=Cq.kp g9 (Kp.of_below (e:=none) (show Bl w5 w7 from (Brm _ _).drew.trans a0)) Fm;have f2:=fun h9 (hb:w.heap.size+1+1+1<h9)=>(Kp.set_lo (e:=none) (b:=h9) (i:=0) (g:=w.heap.size+1+1+1) (w:=w7) hb (.s ta x.locals.length tc)).trans (Kp.set_lo (i:=1) (g:=w.heap.size+1+1+1) hb (.s ua D uc));have j5:=Cq.kp h8 (f2 _ j1) Fm;have j6:=Cq.kp h7 (f2 _ j4) Fm;have Z7:=stay a0 (show (w5.drew).heap[w.heap.size+1+1+1]?=_ from Z5);clear F r0 c5 o0 o1 Q lR lO a0 R5 X5 Z5 O5 g9 h7 h8 f2 c4 h6;obtain⟨I,J⟩:=cl2 Z7;obtain⟨q0,q1⟩:=fr2 Z7;have lZ:=Sp Z7;simp at I J;have j7:=(j3.setCell (p:=.a (w.heap.size+1+1+1) 0) Fr (.s ta x.locals.length tc)).setCell (p:=.a (w.heap.size+1+1+1) 1) Fr (.s ua D uc);go_wp2_with fail;refine tb (.tuple #[.agg #[.s ta x.locals.length tc,.s ua D uc],.bool true]) (by simp[results,Bu3,go_sem,I,J]) ?_;obtain rfl:=Ba HE;refine⟨⟨ta,x.locals.length,tc,ua,D,uc⟩,rfl,fun y hy=>?_,j7⟩;simp only[Option.some.injEq]at hy;subst hy;exact⟨Gw j5 (by simp[Ci]),Gw j6 (by simp[Ci]),by simp[Ci];omega,by simp[Ci];omega⟩
  rw[Th h4]at B;have HE:=Bc B.symm;have k8:(A != (c:Int))=true:=by simpa using h4
  clear B h4;obtain⟨s0,s1,a3⟩:=Ba S0 _ N;have b0:=N.size;have R2:=Be w2 (O7 4 (q:Int));have a4:=N.alloc b0 (O7 4 (q:Int));have d4:=Bg F2 (O7 4 (q:Int));have d5:=Bg M2 (O7 4 (q:Int));have b1:=Bg X2 (O7 4 (q:Int));have b2:=Bg O (O7 4 (q:Int));have lM:=Sp M2;obtain⟨m0,m1,m2,m3,m4,m5,m6,m7,m8,m9,b3,b4⟩:=El M2;simp at m0 m1 m2 m3 m4 m5 m6 m7 m8 m9 b3 b4;go_wp2_with fail;refine Qm (Ba g7 _) ?_;intro w3 Z;have a7:=a4.trans (Z.mono a4.size);have R3:=stay Z R2;have X3:=stay Z b1;have Z3:=stay Z b2;have d6:=a7.size;clear m0 m1 m2 m3 m4 m5 m6 m7 m8 m9 b3 b4 lM G F Q s0 s1 Z F2 M2 X2 O d4 d5 b1 b2 R2 a4 g3 b0 N;obtain⟨G,F⟩:=cl2 X3;have Q:=Sp X3;have lR:=Sp R3;simp at G F;obtain⟨I,J⟩:=cl2 Z3;obtain⟨q0,q1⟩:=fr2 Z3;have lZ:=Sp Z3;simp at I J;go_wp2_with fail;refine tb (.tuple #[.agg #[.s V x.locals.length Y,.s (some ⟨gs,os,none⟩) x.stack.length L],.bool false]) (by simp[results,Bu3,go_sem,I,J]) ?_;obtain rfl:=Ba HE;exact⟨⟨V,x.locals.length,Y,some ⟨gs,os,none⟩,x.stack.length,L⟩,rfl,fun y hy=>by simp at hy,(a7.setCell Fr _).setCell Fr _⟩
 rw[Th h3]at B;have HE:=Bc B.symm;have k9:(k1 != 4)=true:=by simpa using h3
 clear B h3 b9;obtain⟨s0,s1,a3⟩:=Ba S0 _ N;obtain⟨I,J⟩:=cl2 O;obtain⟨q0,q1⟩:=fr2 O;have lZ:=Sp O;simp at I J;go_wp2_with fail;refine tb (.tuple #[.agg #[.s V x.locals.length Y,.s (some ⟨gs,os,none⟩) x.stack.length L],.bool false]) (by simp[results,Bu3,go_sem,I,J,lZ]) ?_;obtain rfl:=Ba HE;exact⟨⟨V,x.locals.length,Y,some ⟨gs,os,none⟩,x.stack.length,L⟩,rfl,fun y hy=>by simp at hy,((N.setCell Fr _).setCell Fr _).alloc Fr _⟩
end Go.Proofs.YtpcgnjolfahacaaGreat
