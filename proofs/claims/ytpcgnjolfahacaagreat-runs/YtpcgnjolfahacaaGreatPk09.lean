/- the proof's parts -/
import Derived.Test.YtpcgnjolfahacaaGreatPk08
set_option maxRecDepth 100000
set_option maxHeartbeats 40000000
set_option linter.unusedVariables false
set_option linter.unusedSimpArgs false
set_option linter.defProp false
namespace Go.Proofs.YtpcgnjolfahacaaGreat
open Go.RowKit Go.Proofs.Tryz
def Yv(k:Cw)(S:Bo)(v:Dd)(b x:Int)(w:TW)(f:k.Ok)(h:Bw k S v w):Calls prog 85 #[.q k.B 0,.i b,.i x] w fun e m=>e=.r (.tuple #[])/\Bw k (S.fin b x) v m:=by
 obtain⟨p,s,t,z,A,C,D,F,G,I,J,K,L,N,O,Q,a0,V,a1,a2,Y,c⟩:=h.sees;have a3:=c 33;have a4:=c 35;have a5:=c 36;have g:Bw k ⟨S.read,S.objs,S.now,S.wait,S.ended,S.out,b,S.value,S.steps⟩ v (w.setCell (.a k.B 35) (.i b)):=h.setPost f (j:=3) Ck _ rfl rfl rfl h.rows;have l:Bw k ⟨S.read,S.objs,S.now,S.wait,S.ended,S.out,b,x,S.steps⟩ v ((w.setCell (.a k.B 35) (.i b)).setCell (.a k.B 36) (.i x)):=g.setPost f (j:=4) Ck _ rfl rfl rfl g.rows;have Z:Bw k (S.fin b x) v (((w.setCell (.a k.B 35) (.i b)).setCell (.a k.B 36) (.i x)).setCell (.a k.B 33) (.bool true)):=l.setPost f (j:=1) Ck _ rfl rfl rfl l.rows;clear p s t z A C D F G I J K L N O Q V Y c g l;go_in;go_wp2;go_end0;exact⟨rfl,Z⟩
def Ba4(w:TW)(b:Nat):(⟨0,0,none,0,0,0,0,0,0,none,0,0,none,0,0,none,0,0⟩:PM).is Ef w b :=
 ⟨rfl,rfl,rfl,rfl,rfl,rfl,rfl,Brw _ _ _ _,rfl,Brw _ _ _ _,rfl,Brw _ _ _ _,rfl,[],rfl,Brw _ _ _ _,fun p c=>by simp at c⟩
def N8(k:Cw)(S:Bo)(v:Dd)(n:Int)(w:TW)(Y:k.Ok)(h:Bw k S v w):Calls prog 131 #[.q k.B 0,.i n] w fun e Z=>∃m:PM,e=.returned m.val/\m.is (k.E.meth n) Z k.bm/\Bl w Z:=by
 obtain⟨c0,c1,c2,c3,c4,c5,c6,c7,c8,c9,a1,a2,a3,a4,a5,a6,a7,a8,a9,b0,b1,fr⟩:=h.sees;have b:=h.rows.mths Y;have b2:=Y.ml;have b3:=h.blk.lt;clear c0 c2 c3 c4 c5 c6 c7 c8 c9 a1 a2 a3 a4 a5 a6 a7 a8 a9 b0 b1 fr;unfold Dn.meth;have a0:k.E.ms.length=k.lms.length:=by simp[Cw.E]
 rw[a0];by_cases c:n<0;·rw[Th c];clear b h;go_in;go_wp2;refine tb (.agg #[.i 0,.i 0,.s none 0 0,.i 0,.i 0,.i 0,.i 0,.s none 0 0,.s none 0 0,.s none 0 0]) (by simp[results,Bwm,go_sem]) ?_;exact⟨_,rfl,Ba4 _ _,by repeat (first|exact Brm _ _|refine Bs4 ?_ Hd _|refine Bry ?_ Hd _)⟩
 rw[Pk c];by_cases f:(k.lms.length:Int)<=n;·rw[Th f];clear b h;go_in;go_wp2;refine tb (.agg #[.i 0,.i 0,.s none 0 0,.i 0,.i 0,.i 0,.i 0,.s none 0 0,.s none 0 0,.s none 0 0]) (by simp[results,Bwm,go_sem]) ?_;exact⟨_,rfl,Ba4 _ _,by repeat (first|exact Brm _ _|refine Bs4 ?_ Hd _|refine Bry ?_ Hd _)⟩
 rw[Pk f];obtain⟨i,rfl⟩:=Brp (show 0<=n by omega);have hi:i<k.lms.length:=Ck;have e:k.E.ms.getD (i:Int).toNat Ef=k.lms[i].1:=by
  rw[Brx,Vm];simp[Cw.E,hi]
 rw[e];obtain⟨q,g,hg,b4,Ev,hq⟩:=b.mth hi;obtain⟨y0,y1,y2,y3,y4,y5,y6,y7,y8,y9⟩:=T5 Ev;rw[hg]at c1;have b5:(i:Int)<(k.lms.length:Int):=Ck;generalize k.lms[i]=x at *;obtain⟨j,l,p,t,z,A,C,D,F,G,I,J,K,L,N,O,Q,V⟩:=q;simp only at y0 y1 y2 y3 y4 y5 y6 y7 y8 y9;clear Ev b h c f e hg a0;go_in;go_wp2;refine tb (.agg #[.i j,.i l,.s p t z,.i A,.i C,.i D,.i F,.s G I J,.s K L N,.s O Q V]) (by simp[results,Bwm,go_sem]) ?_;have hb:Bl w (w.alloc (O18 j l p t z A C D F G I J K L N O Q V)):=QN _;exact⟨⟨j,l,p,t,z,A,C,D,F,G,I,J,K,L,N,O,Q,V⟩,rfl,hq.below hb,hb⟩
def Bhv{α β:Type}{f:α->Option β}:∀{l:List α},(l.filterMap f).Nodup->∀{i j:Nat}{a b:α}{g:β},i≠j->l[i]?=some a->l[j]?=some b->f a=some g->f b≠some g
 | [],_,i,_,_,_,_,_,h,_,_=>by simp at h
 | x::r,hn,i,j,a,b,g,hij,hi,hj,ha=>by
  intro m;have s:(r.filterMap f).Nodup:=by
   cases e:f x with
   | none=>rw[Bt1 e]at hn;exact hn
   | some y=>rw[Bte e]at hn;exact(List.nodup_cons.1 hn).2
  have p:∀{q:Nat}{c:α},f x=some g->r[q]?=some c->f c=some g->False:=fun {q c} e t v=>by
   rw[Bte e]at hn;exact(List.nodup_cons.1 hn).1 (List.mem_filterMap.2 ⟨c,Bs6 t,v⟩)
  cases i with
  | zero =>
   cases j with
   | zero=>exact hij rfl
   | succ j =>
    simp only[Btt,Option.some.injEq]at hi;subst hi;exact p ha (by simpa using hj) m
  | succ i =>
   cases j with
   | zero =>
    simp only[Btt,Option.some.injEq]at hj;subst hj;exact p m (by simpa using hi) ha
   | succ j=>exact Bhv s (i:=i) (j:=j) Ck (by simpa using hi) (by simpa using hj) ha m
theorem Dq.obj{k:Cw}{A:List (Int×List Int)}{l:List Bi}{z:List Int}{v:Dd}{w:World}(h:Dq k A l z v w){u:Nat}(m:u<A.length):∃g,v.oa=some ⟨g,0,none⟩/\g<w.heap.size/\w.cell? ⟨g,u*2,none⟩=some (.int .i64 (A.getD u (0,[])).1)/\w.cell? ⟨g,u*2+1,none⟩=some (v.ov.getD u (.slice none 0 0))/\∀j,w.frozen? ⟨g,j,none⟩=false:=by
 obtain⟨g,e,p,_,f⟩:=Cf h.objs Ck;obtain⟨a,b⟩:=Ba3 A v.ov h.ovl u m;have s:=Zt A v.ov h.ovl;refine⟨g,e,p,by rw[f _ Ck];exact a,by rw[f _ Ck];exact b,?_⟩;intro j;obtain⟨_,⟨c,t⟩|⟨B,C,D,c,_,q,_⟩⟩:=h.objs
 ·omega
 rw[e]at c;simp only[Value.slice.injEq,Option.some.injEq,Addr.mk.injEq,Br8]at c;obtain⟨rfl,_⟩:=c;exact Bk q j
def Dq.flds_ne{k:Cw}{A:List (Int×List Int)}{b:List Bi}{z:TI}{v:Dd}{w:TW}(h:Dq k A b z v w){i j:Nat}{t:Nat}(c:i<A.length)(f:j<A.length)(m:i≠j) (l:(v.ov.getD i (.s none 0 0)).ownBlock=some t):(v.ov.getD j (.s none 0 0)).ownBlock≠some t:=by
 have p:=h.ovl;have e:∀q,q<A.length->(Value.slice v.xa z.length v.xc::v.ov)[q+1]?=some (v.ov.getD q (.s none 0 0)):=fun q B=>by
  rw[Bsn,Vm,Brl Ck];rfl
 exact Bhv h.nd (i:=i+1) (j:=j+1) Ck (e i c) (e j f) l
def Dq.out_ne{k:Cw}{A:List (Int×List Int)}{c:List Bi}{z:TI}{v:Dd}{w:TW}(h:Dq k A c z v w){i:Nat}{b:Nat}(l:i<A.length) (f:(v.ov.getD i (.s none 0 0)).ownBlock=some b):(Value.slice v.xa z.length v.xc).ownBlock≠some b:=by
 have m:=h.ovl;have e:(Value.slice v.xa z.length v.xc::v.ov)[i+1]?=some (v.ov.getD i (.s none 0 0)):=by
  rw[Bsn,Vm,Brl Ck];rfl
 exact Bhv h.nd (i:=i+1) (j:=0) Ck e rfl f
def Yu(k:Cw)(S:Bo)(v:Dd)(r:Int)(w:TW)(h:Bw k S v w):Calls prog 284 #[.q k.B 10,.i r] w fun e c=>e=.r (.bool (Lr r S.objs))/\c=w:=by
 have g:=h.sees.c10;unfold Lr;by_cases f:1<=r
 ·by_cases b:r<=(S.objs.length:Int);·clear h;go_in;go_wp2;go_ret;exact⟨by simp[f,b],rfl⟩
  clear h;go_in;go_wp2;go_ret;exact⟨by simp[b],rfl⟩
 clear h;go_in;go_wp2;go_ret;exact⟨Fr,rfl⟩
def Vt{r:Int}{A:List (Int×List Int)}:Lr r A=true<->∃i:Nat,i<A.length/\r=(i:Int)+1:=by
 unfold Lr;rw[Bsq,Bsv,Bsv]
 constructor
 ·intro ⟨a,b⟩;exact⟨(r-1).toNat,Ck,Ck⟩
 rintro ⟨i,a,rfl⟩;omega
def Tc(k:Cw)(S:Bo)(v:Dd)(r:Int)(w:TW)(h:Bw k S v w):Calls prog 250 #[.q k.B 10,.i r] w fun e j=>e=.r (.i (Ho r S.objs))/\j=w:=by
 have c:=Yu k S v r w h;have l:=h.sees.c10;unfold Ho;cases b:Lr r S.objs with
 | false =>
  rw[b]at c;rw[Pk Hd];clear h b;go_in;go_wp2_with fail;refine Qm c ?_;rintro m rfl;go_wp2;go_ret;exact⟨rfl,rfl⟩
 | true =>
  rw[b]at c;rw[Th rfl];obtain⟨i,p,rfl⟩:=Vt.1 b;unfold K6;have e:((i:Int)+1-1).toNat=i:=Ck;rw[e];obtain⟨g,f,A,C,s,t⟩:=h.rows.obj p;rw[f]at l;have D:(i:Int)<(S.objs.length:Int):=Ck;have F:S.objs.length<=9223372036854775807:=by
   obtain⟨_,⟨_,G⟩|⟨_,I,_,_,_,_,J,z,_⟩⟩:=h.rows.objs
   ·omega
   unfold maxLen at z;omega
  clear h b e t s f;generalize (S.objs.getD i (0,[])).1=K at *;go_in;go_wp2_with fail;refine Qm c ?_;rintro m rfl;go_wp2;go_ret;exact⟨rfl,rfl⟩
def Wc(k:Cw)(S:Bo)(v:Dd)(r s:Int)(w:TW)(h:Bw k S v w):Calls prog 302 #[.q k.B 10,.i r,.i s] w fun e t=>e=.r (.bool (Iq r s S.objs))/\t=w:=by
 have c:=Yu k S v r w h;have z:=h.sees.c10;unfold Iq;cases b:Lr r S.objs with
 | false =>
  rw[b]at c;rw[Bt6];clear h b;go_in;go_wp2_with fail;refine Qm c ?_;rintro f rfl;go_wp2;go_ret;exact⟨rfl,rfl⟩
 | true =>
  rw[b]at c;rw[Bts];by_cases j:0<=s
  ·obtain⟨i,l,rfl⟩:=Vt.1 b;unfold K6;have e:((i:Int)+1-1).toNat=i:=Ck;rw[e,Bt5 j,Bts];obtain⟨g,m,G,A,C,D⟩:=h.rows.obj l;rw[m]at z;have I:(i:Int)<(S.objs.length:Int):=Ck;have J:S.objs.length<=9223372036854775807:=by
    obtain⟨_,⟨_,K⟩|⟨_,L,_,_,_,_,N,F,_⟩⟩:=h.rows.objs
    ·omega
    unfold maxLen at F;omega
   obtain⟨O,Q,p⟩:=Bh (h.rows.flds i l);rw[p]at C;clear h b e D A m p;generalize (S.objs.getD i (0,[])).2=V at *;go_in;go_wp2_with fail;refine Qm c ?_;rintro f rfl;go_wp2;go_ret;exact⟨rfl,rfl⟩
  rw[Buk j,Bt6];clear h b;go_in;go_wp2_with fail;refine Qm c ?_;rintro f rfl;go_wp2;go_ret;exact⟨rfl,rfl⟩
def Wv{r B:Int}{A:List (Int×List Int)}:Iq r B A=true<->∃i j:Nat,i<A.length/\r=(i:Int)+1/\B=(j:Int)/\j<(A.getD i (0,[])).2.length:=by
 unfold Iq;rw[Bsq,Vt,Bsq,Bsv,Bsv]
 constructor
 ·rintro ⟨⟨i,b,rfl⟩,f,c⟩;have e:((i:Int)+1-1).toNat=i:=Ck;unfold K6 at c;rw[e]at c;exact⟨i,B.toNat,b,rfl,Ck,Ck⟩
 rintro ⟨i,j,b,rfl,rfl,g⟩;have e:((i:Int)+1-1).toNat=i:=Ck;refine⟨⟨i,b,rfl⟩,Ck,?_⟩;unfold K6;rw[e];omega
def Dq.ol{k:Cw}{A:List (Int×List Int)}{b:List Bi}{z:TI}{v:Dd}{w:TW}(h:Dq k A b z v w):A.length<=9223372036854775807:=by
 obtain⟨_,⟨_,e⟩|⟨_,f,_,_,_,_,g,c,_⟩⟩:=h.objs
 ·omega
 unfold maxLen at c;omega
def Bde(i:Nat)(l:List (Int×List Int)):K6 ((i:Int)+1) l=l.getD i (0,[]):=by
 unfold K6;rw[show ((i:Int)+1-1).toNat=i by omega]
def Bmt(k:Cw)(S:Bo)(v:Dd)(r s:Int)(w:TW)(h:Bw k S v w):Calls prog 282 #[.q k.B 10,.i r,.i s] w fun e A=>e=.r (.i (Ss r s S.objs))/\A=w:=by
 have c:=Wc k S v r s w h;have C:=h.sees.c10;unfold Ss;cases b:Iq r s S.objs with
 | false =>
  rw[b]at c;rw[Pk Hd];clear h b;go_in;go_wp2_with fail;refine Qm c ?_;rintro D rfl;go_wp2;go_ret;exact⟨rfl,rfl⟩
 | true =>
  rw[b]at c;rw[Th rfl];obtain⟨i,j,l,rfl,rfl,m⟩:=Wv.1 b;rw[Bde,Brx];obtain⟨g,p,L,F,G,I⟩:=h.rows.obj l;rw[p]at C;have N:(i:Int)<(S.objs.length:Int):=Ck;have O:=h.rows.ol;have f:=h.rows.flds i l;obtain⟨Q,V,t⟩:=Bh f;rw[t]at G f;obtain⟨Y,J,Z,z⟩:=Wt f Ck;have z0:=z j m;have e:(S.objs.getD i (0,[])).2.getD j 0=(S.objs.getD i (0,[])).2[j]:=by rw[Vm,Brl m];rfl
  rw[e];have a0:(j:Int)<((S.objs.getD i (0,[])).2.length:Int):=Ck;clear h b I F p t f z e;generalize (S.objs.getD i (0,[])).2=K at *;generalize K[j]=x at *;subst J;go_in;go_wp2_with fail;refine Qm c ?_;rintro D rfl;go_wp2;go_ret;exact⟨rfl,rfl⟩
def Bdt{w:TW}{u b n O j:Nat}{z:TI}(h:De w u (.s (.p b) n O) z)(B:j<z.length)(x:Int):De (w.setCell (.a b j) (.i x)) u (.s (.p b) n O) (z.set j x)/\w.frozen? (.a b j)=false:=by
 obtain⟨C,⟨e,D⟩|⟨F,G,I,e,q,f,t,v,A,m⟩⟩:=h
 ·simp at e
 simp only[Value.slice.injEq,Option.some.injEq,Addr.mk.injEq,Br8]at e;obtain⟨rfl,rfl,rfl⟩:=e;refine⟨⟨Hd,.inr ⟨b,O,_,Hd,q,Bt f _,by simpa using t,v,by simpa using A,?_⟩⟩,Bk f j⟩;simp only[Bw7]at m ⊢;rw[Bsl,But,<- m,Bux,Bvy]
def Dq.putF{k:Cw}{A:List (Int×List Int)}{Q:List Bi}{z:TI}{v:Dd}{w:TW}(h:Dq k A Q z v w)(ok:k.Ok){u b t n c:Nat}(m:u<A.length)(hj:b<(A.getD u (0,[])).2.length) (C:v.ov.getD u (.s none 0 0)=.s (.p t) n c)(x:Int):Dq k (A.set u ((A.getD u (0,[])).1,(A.getD u (0,[])).2.set b x)) Q z v (w.setCell (.a t b) (.i x)):=by
 have B:=h.flds u m;have D:(v.ov.getD u (.s none 0 0)).ownBlock=some t:=by rw[C];rfl
 have a2:=(B.lt t D).1;have a3:=(B.lt t D).2;have K:∃V:TV,w.heap[t]?=some (.cells V.toArray 3 (0,0)):=by
  rw[C]at B;obtain⟨_,⟨F,_⟩|⟨g',a4,a0,F,_,hg,_⟩⟩:=B
  ·simp at F
  simp only[Value.slice.injEq,Option.some.injEq,Addr.mk.injEq,Br8]at F;obtain⟨rfl,_⟩:=F;exact⟨a0.toList,by simpa using hg⟩
 obtain⟨V,K⟩:=K;have Y:∀q,q≠t->(w.setCell (.a t b) (.i x)).heap[q]?=w.heap[q]?:=fun q l=>Brk _ _ _ _ (by simpa using l);have G:∀{f e I n:Nat}{g:TX}{J:TV},w.ownsRow f e I g n J->g.ownBlock≠some t->(w.setCell (.a t b) (.i x)).ownsRow f e I g n J:=fun L N=>Fz L (fun q l=>Y q (fun e=>N (e▸l)));have Z:∀{f e I n:Nat}{g:TX}{J:TV},w.ownsRow f e I g n J->e≠3->g.ownBlock≠some t:=fun L he N=>Fl L K he t N rfl;have a1:(A.set u ((A.getD u (0,[])).1,(A.getD u (0,[])).2.set b x)).map Prod.fst=A.map Prod.fst:=by
  rw[But];apply Bv1;intro q;rw[Bup];by_cases e:u=q;·subst e;rw[Th rfl,Th (by simpa using m),Bsf,Vm,Brl m];rfl
  rw[Pk e]
 have hB:=ok.Bs;refine⟨?_,by rw[Bsl];exact h.ovl,by rw[Bsl];exact h.obk,fun q l=>?_,G h.wait (Z h.wait Fm),h.wwf,G h.out (h.out_ne m D),h.nd,fun q h1 h2 h3=>?_,?_,?_⟩
 ·rw[Bsl,Xv _ _ _ a1];exact G h.objs (Z h.objs Fm)
 ·rw[Bsl]at l;by_cases e:q=u
  ·subst e;have O:(A.set q ((A.getD q (0,[])).1,(A.getD q (0,[])).2.set b x)).getD q (0,[])=((A.getD q (0,[])).1,(A.getD q (0,[])).2.set b x):=by
    rw[Vm,Bt8 m];rfl
   rw[O,C];rw[C]at B;exact(Bdt B hj x).1
  have O:(A.set u ((A.getD u (0,[])).1,(A.getD u (0,[])).2.set b x)).getD q (0,[])=A.getD q (0,[]):=by
   rw[Vm,Bt2 Ck,<- Vm]
  rw[O];exact G (h.flds q l) (h.flds_ne m l Ck D)
 ·rw[Y q Ck];exact h.keep q h1 h2 h3
 ·exact h.low.setCell Fr _
 simp[World.setCell];exact h.szs
def Bmp(k:Cw)(S:Bo)(v:Dd)(r s x:Int)(w:TW)(A:k.Ok)(h:Bw k S v w):Calls prog 283 #[.q k.B 10,.i r,.i s,.i x] w fun e I=>e=.r (.tuple #[])/\Bw k (S.withObjs (Ra r s x S.objs)) v I:=by
 have c:=Wc k S v r s w h;have J:=h.sees.c10;unfold Ra;cases b:Iq r s S.objs with
 | false =>
  rw[b]at c;rw[Pk Hd];clear b;go_in;go_wp2_with fail;refine Qm c ?_;rintro K rfl;go_wp2;go_end0;exact⟨rfl,h⟩
 | true =>
  rw[b]at c;rw[Th rfl];obtain⟨i,j,t,rfl,rfl,z⟩:=Wv.1 b;rw[Bde,Brx,show ((i:Int)+1-1).toNat=i by omega];obtain⟨g,C,a0,L,N,O⟩:=h.rows.obj t;rw[C]at J;have a1:(i:Int)<(S.objs.length:Int):=Ck;have hl:=h.rows.ol;have f:=h.rows.flds i t;obtain⟨fa,fc,l⟩:=Bh f;have m:=f;rw[l]at N m;obtain⟨p,Q,a2,D⟩:=Wt m Ck;have z0:=D j z;have a3:(j:Int)<((S.objs.getD i (0,[])).2.length:Int):=Ck;subst Q;have zf:=(Bdt m z x).2;have F:=h.rows.putF A t z l x;have V:p≠k.B:=by
   have Y:(v.ov.getD i (.s none 0 0)).ownBlock=some p:=by rw[l];rfl
   have:=(f.lt p Y).1;have:=A.Bs;omega
  have G:Bw k (S.withObjs (S.objs.set i ((S.objs.getD i (0,[])).1,(S.objs.getD i (0,[])).2.set j x))) v (w.setCell (.a p j) (.i x)):=by
   refine⟨?_,h.wf,F⟩;have b:=h.blk;unfold Mid at b ⊢;rw[Brk _ _ _ _ (by simpa using Btj V)];simpa[Bo.withObjs] using b
  have Z:=Bc G;clear b O L C l f m D F G h;generalize (S.objs.getD i (0,[])).2=fs at *;generalize fs[j]=x0 at *;go_in;go_wp2_with fail;refine Qm c ?_;rintro K rfl;go_wp2;go_end0;exact⟨rfl,Ba Z⟩
def Bez{w:TW}{u b t n g i j:Nat}{e:TV}(h:w.ownsRow u b t (.s (.p g) n i) n e)(c:TX):(w.setCell (.a g j) c).ownsRow u b t (.s (.p g) n i) n (e.set j c):=by
 obtain⟨l,⟨f,C⟩|⟨D,F,G,f,m,q,v,z,A,B⟩⟩:=h
 ·simp at f
 simp only[Value.slice.injEq,Option.some.injEq,Addr.mk.injEq,Br8,Buw]at f;obtain⟨rfl,rfl⟩:=f;refine⟨by simpa using l,.inr ⟨g,i,_,rfl,m,Bt q _,v,z,by simpa using A,?_⟩⟩;rw[<- B,Bux,Bvy]
def Bd5{α β:Type}{f:α->Option β}:∀(l:List α) (i:Nat) (y:α),(l.filterMap f).Nodup->(∀g,f y=some g->∀u∈l,f u≠some g)->((l.set i y).filterMap f).Nodup
 | [],_,_,h,_=>h
 | x::r,0,y,h,hy=>by
  rw[Bvs];have p:(r.filterMap f).Nodup:=by
   cases c:f x with
   | none=>rw[Bt1 c]at h;exact h
   | some z=>rw[Bte c]at h;exact(List.nodup_cons.1 h).2
  cases j:f y with
  | none=>rw[Bt1 j];exact p
  | some g =>
   rw[Bte j];refine List.nodup_cons.2 ⟨fun m=>?_,p⟩;obtain⟨u,b,e⟩:=List.mem_filterMap.1 m;exact hy g j u (by simp[b]) e
 | x::r,i+1,y,h,hy=>by
  rw[Bsp];have q:∀g,f y=some g->∀u∈r,f u≠some g:=fun g s u b=>hy g s u (by simp[b]);cases c:f x with
  | none =>
   rw[Bt1 c]at h ⊢;exact Bd5 r i y h q
  | some z =>
   rw[Bte c]at h ⊢;obtain⟨t,v⟩:=List.nodup_cons.1 h;refine List.nodup_cons.2 ⟨fun m=>?_,Bd5 r i y v q⟩;obtain⟨u,b,e⟩:=List.mem_filterMap.1 m;rcases Bv5 b with b|rfl
   ·exact t (List.mem_filterMap.2 ⟨u,b,e⟩)
   exact hy z e x Hd c
def Dd.setO(v:Dd)(i:Nat)(u:TX):Dd:=⟨v.oa,v.oc,v.wa,v.wc,v.xa,v.xc,v.ov.set i u⟩
def Dq.setF{k:Cw}{A:List (Int×List Int)}{I:List Bi}{z:TI}{v:Dd}{w:TW}(h:Dq k A I z v w)(V:k.Ok){u b:Nat}(J:u<A.length)(t:v.oa=some ⟨b,0,none⟩){c:TX}{F:TI} (Y:De w k.w0.heap.size c F)(Z:∀q,c.ownBlock=some q->∀x∈(Value.slice v.xa z.length v.xc::v.ov),x.ownBlock≠some q):Dq k (A.set u ((A.getD u (0,[])).1,F)) I z (v.setO u c) (w.setCell (.a b (u*2+1)) c):=by
 have B:=h.objs;rw[t]at B;have ho:(Value.slice (.p b) A.length v.oc).ownBlock=some b:=rfl;have G:∃K:TV,w.heap[b]?=some (.cells K.toArray 215 (0,0)):=by
  obtain⟨_,⟨C,_⟩|⟨g',a1,a0,C,_,t,_⟩⟩:=B
  ·simp at C
  simp only[Value.slice.injEq,Option.some.injEq,Addr.mk.injEq,Br8]at C;obtain⟨rfl,_⟩:=C;exact⟨a0.toList,by simpa using t⟩
 obtain⟨K,G⟩:=G;have L:∀q,q≠b->(w.setCell (.a b (u*2+1)) c).heap[q]?=w.heap[q]?:=fun q m=>Brk _ _ _ _ (by simpa using m);have D:∀{j e N n:Nat}{x:TX}{O:TV},w.ownsRow j e N x n O->e≠215->(w.setCell (.a b (u*2+1)) c).ownsRow j e N x n O:=fun Q he=>Fz Q (fun q m=>L q (Fl Q G he q m));have hB:=V.Bs;have a2:=h.obk b (by rw[t];rfl);have a3:=h.ovl;have a4:=(B.lt b rfl).1;refine⟨?_,by simp[Dd.setO,h.ovl],by rw[Bsl];exact h.obk,fun q m=>?_,D h.wait Fm,h.wwf,D h.out Fm,?_,fun q h1 h2 h3=>?_,?_,?_⟩
 ·rw[Bsl];show (w.setCell (.a b (u*2+1)) c).ownsRow _ _ 2 (.s v.oa _ v.oc) _ (ocells _ (v.ov.set u c));rw[<- Zr A v.ov h.ovl u _ F c rfl J,t];exact Bez B c
 ·rw[Bsl]at m;show De _ _ ((v.ov.set u c).getD q (.s none 0 0)) _;by_cases e:q=u;·subst e;rw[Vm,Bt8 Ck,Vm,Bt8 J];exact D Y Fm
  rw[Vm,Bt2 Ck,<- Vm,Vm (l:=A.set u _),Bt2 Ck,<- Vm];exact D (h.flds q m) Fm
 ·have:=Bd5 (f:=Value.ownBlock) (Value.slice v.xa z.length v.xc::v.ov) (u+1) c h.nd Z;rw[Bsp]at this;exact this
 ·rw[L q Ck];exact h.keep q h1 h2 h3
 ·exact h.low.setCell Fr _
 simp[World.setCell];exact h.szs
def Bmn(k:Cw)(S:Bo)(v:Dd)(r:Int)(f:TA)(j:Nat)(b:TI)(w:TW)(F:k.Ok)(h:Bw k S v w)(p:De w k.w0.heap.size (.s f b.length j) b) (t:∀q,(Value.slice f b.length j).ownBlock=some q->∀x∈(Value.slice v.xa S.out.length v.xc::v.ov),x.ownBlock≠some q):Calls prog 280 #[.q k.B 10,.i r,.s f b.length j] w fun e G=>e=.r (.tuple #[])/\∃I,Bw k (S.withObjs (P9 r b S.objs)) I G:=by
 have l:=Yu k S v r w h;have J:=h.sees.c10;unfold P9;cases c:Lr r S.objs with
 | false =>
  rw[c]at l;rw[Pk Hd];clear c p t;go_in;go_wp2_with fail;refine Qm l ?_;rintro K rfl;go_wp2;go_end0;exact⟨rfl,v,h⟩
 | true =>
  rw[c]at l;rw[Th rfl];obtain⟨i,z,rfl⟩:=Vt.1 c;rw[Bde,show ((i:Int)+1-1).toNat=i by omega];obtain⟨g,m,Q,L,V,A⟩:=h.rows.obj z;have C:=h.rows.setF F z m p t;have Y:(i:Int)<(S.objs.length:Int):=Ck;have Z:=h.rows.ol;have a0:=A (i*2+1);have N:g≠k.B:=by
   have:=Fl h.rows.objs h.blk Fm g (by rw[m];rfl);exact this
  rw[m]at J;have D:Bw k (S.withObjs (S.objs.set i ((S.objs.getD i (0,[])).1,b))) (v.setO i (.s f b.length j)) (w.setCell (.a g (i*2+1)) (.s f b.length j)):=by
   refine⟨?_,h.wf,C⟩;have c:=h.blk;unfold Mid at c ⊢;rw[Brk _ _ _ _ (by simpa using Btj N)];simpa[Bo.withObjs,Iv,Gy,Dd.setO] using c
  have O:=Bc D;generalize v.ov.getD i (.s none 0 0)=a1 at *;clear c A L m C D h p t;go_in;go_wp2_with fail;refine Qm l ?_;rintro K rfl;go_wp2;go_end0;exact⟨rfl,_,Ba O⟩
def Tryz.infoObj:(prog.info? 215).map (fun i=>(i.zero,i.size,i.bytes))=some (some (.agg #[.i 0,.s none 0 0]),2,32):=Lt
def Bw.drewN{k:Cw}{S:Bo}{v:Dd}{w:TW}(h:Bw k S v w)(b:k.Ok)(n:Nat):Bw k S v (w.drewN n):=h.gr b ⟨rfl,rfl,rfl,Bru _,fun _ _=>rfl⟩
def Bw.drew{k:Cw}{S:Bo}{v:Dd}{w:TW}(h:Bw k S v w)(b:k.Ok):Bw k S v w.drew:=h.gr b ⟨rfl,rfl,rfl,Bru _,fun _ _=>rfl⟩
def Dq.addO{k:Cw}{A:List (Int×List Int)}{L:List Bi}{z:TI}{v:Dd}{w C:TW}(h:Dq k A L z v w)(Y:k.Ok){e:TV}(N:w.heap[k.B]?=some (.cells e.toArray 156 (0,0))){c:Int}{g:TA}{u:Nat} (Z:C.ownsRow k.wE.heap.size 215 2 (.s g (A.length+1) u) (A.length+1) (ocells A v.ov++[.i c,.s none 0 0]))(p:w.grownBy C (Value.slice v.oa A.length v.oc).ownBlock) (a0:(Value.slice g (A.length+1) u).ownBlock=(Value.slice v.oa A.length v.oc).ownBlock\/(Value.slice g (A.length+1) u).ownBlock=some w.heap.size):Dq k (A++[(c,[])]) L z ⟨g,u,v.wa,v.wc,v.xa,v.xc,v.ov++[.s none 0 0]⟩ C/\C.heap[k.B]?=w.heap[k.B]?:=by
 have G:=h.objs;have a1:∀f,(Value.slice v.oa A.length v.oc).ownBlock=some f->∃e:TV,w.heap[f]?=some (.cells e.toArray 215 (0,0)):=fun f D=>by
  obtain⟨_,⟨I,_⟩|⟨g',a5,a2,I,_,p,_⟩⟩:=G
  ·rw[I]at D;simp[Value.ownBlock]at D
  rw[I]at D;simp only[Value.ownBlock,Option.some.injEq]at D;subst D;exact⟨a2.toList,by simpa using p⟩
 have J:∀{b m O n:Nat}{x:TX}{Q:TV},w.ownsRow b m O x n Q->m≠215->C.ownsRow b m O x n Q:=fun K he=>Fz K (fun q t=>p.block q (K.lt q t).2 (fun m=>by
  obtain⟨e,hc⟩:=a1 q m.symm;exact Fl K hc he q t rfl))
 have a6:=Y.Bs;have a3:=h.ovl;have a4:C.heap[k.B]?=w.heap[k.B]?:=p.block k.B (Sp N) (fun m=>Fl G N Fm k.B m.symm rfl);refine⟨⟨?_,by simp[h.ovl],fun j F=>?_,fun q t=>?_,J h.wait Fm,h.wwf,J h.out Fm,?_,fun q V h2 h3=>?_,?_,Br5 h.szs p.size⟩,a4⟩
 ·rw[Ws,Bs8,Vs _ _ h.ovl];exact Z
 ·rw[Ws,Bs8]at F;rcases a0 with m|m
  ·rw[m]at F;exact h.obk j F
  rw[m]at F;have:w.heap.size=j:=by simpa using F
  exact .inr (by rw[<- this];exact h.szs)
 ·rw[Ws,Bs8]at t;by_cases m:q<A.length;·show De _ _ ((v.ov++[Value.slice none 0 0]).getD q _) _;rw[Vm,Br6 Ck,<- Vm,Vm (l:=A++_),Br6 m,<- Vm];exact J (h.flds q m) Fm
  have eq:q=A.length:=Ck;subst eq;show De _ _ ((v.ov++[Value.slice none 0 0]).getD _ _) _;rw[Vm,Br0 Ck,Vm (l:=A++_),Br0 Ck,a3];simp only[Bus,Btt,Bwb];exact Brw _ _ _ _
 ·have m:(Value.slice v.xa z.length v.xc::(v.ov++[.s none 0 0])).filterMap Value.ownBlock=(Value.slice v.xa z.length v.xc::v.ov).filterMap Value.ownBlock:=by
   rw[<- Bs5,List.filterMap_append];simp[Value.ownBlock]
  rw[m];exact h.nd
 ·rw[p.block q (Brs V h.szs) (fun m=>by rcases h.obk q m.symm with e'|e'<;>omega)];exact h.keep q V h2 h3
 exact⟨p.os.trans h.low.os,p.tape.trans h.low.tape,p.output.trans h.low.output,Br5 h.low.size p.size,
  fun q t=>(p.block q (Brs t h.low.size) (fun m=>by have:=(G.lt q m.symm).1;omega)).trans (h.low.block q t)⟩
def Bdn(k:Cw)(S:Bo)(v:Dd)(c:Int)(w:TW)(b:k.Ok)(h:Bw k S v w)(g:S.objs.length<=1000)(j:k.room<=(S.objs.length:Int)-5):Calls prog 278 #[.q k.B 10,.i c] w fun e f=>e=.r (.tuple #[.i 0,.bool false])/\Bw k S v f:=by
 have l:=h.sees.c10;have m:=h.sees.c11;obtain⟨p,s⟩:=b.rm;go_in;go_wp2;go_quiet (fail);go_wp2;go_ret2;exact⟨rfl,h.drewN b _⟩
def Bm0(k:Cw)(S:Bo)(v:Dd)(f:Int)(w:TW)(b:k.Ok)(h:Bw k S v w)(a1:S.objs.length<=1000)(hr:¬k.room<=(S.objs.length:Int)-5):Calls prog 278 #[.q k.B 10,.i f] w fun e J=>e=.r (.tuple #[.i ((S.objs.length:Int)+1),.bool true])/\∃p,Bw k (S.withObjs (S.objs++[(f,[])])) p J:=by
 have a2:=h.sees.c10;have a3:=h.sees.c11;have a4:=h.sees.fr 10;obtain⟨r0,r1⟩:=b.rm;obtain⟨K,L,N,O,Q⟩:=Bsa Tryz.infoObj;have a5:=h.rows.low.size;have t:Hid (Bw k S v w):=h;have V:=h.rows.objs;clear h;go_in;go_wp2;go_quiet (fail);rename_i nq;have l:=(Ba t).drewN b nq;have z:=l.rows.objs;have A:=Bc l;clear l V;go_wp2_with (at_builtin;refine Btl _ rfl _ _ 146 rfl k.wE.heap.size 215 K _ 2 32 underlying146 L N O Q rfl Fm _ _ _ rfl (z.alloc _) ⟨w.heap.size,0,none⟩ 1 1 [.i f,.s none 0 0] rfl rfl ?c1 ?c2 ?c3 ?c4 ?c5 ?_)
 case c1=>exact Dh _ _ _ _ rfl
 case c2=>intro u C;simp at C;rcases C with rfl|rfl<;>rfl
 case c3=>unfold maxLen;omega
 case c4=>omega
 case c5=>simp;omega
 intro p Y m D _ F;obtain⟨Z,oc,rfl⟩:=Bh m;have c:=(Ba A).gr b (QN (O27 f none 0 0));obtain⟨G,I⟩:=c.rows.addO b c.blk m D (by simpa using F);have g:Mid Y k.B 156 (Iv k S.read S.objs.length v) S.now.cells (Gy v S.wait.length S.out.length S.ended S.status S.value S.steps):=I.trans c.blk;have a0:=g.front.cell (o:=0) (j:=10) rfl (by rw[Ij];omega);have a6:=g.free 10;have HM:=Bc g;have HR:=Bc G;have HW:=Bc c.wf;simp[Iv]at a0;clear g G c A t m D F I z;go_wp2;go_ret2;refine⟨rfl,⟨Z,oc,v.wa,v.wc,v.xa,v.xc,v.ov++[.s none 0 0]⟩,?_⟩;exact Bla (Ba HM) (Ij _ _ _ _) (Ba HW) b Ck _ rfl (by simp[Iv,Bo.withObjs]) rfl (Ba HR)
def Bff(c:Int)(w:TW)(f:0<=c)(g:c<=100):Calls prog 277 #[.i c] w fun e b=>e=.r (.i (c-2+1))/\b=w:=by
 go_in;go_wp2;go_ret;exact⟨rfl,rfl⟩
def Vi:∀(W:List Bi),(∀c∈W,Dz c)->(W.flatMap Bi.cells).length=W.length*20
 | [],_=>rfl
 | c::r,h=>by
  rw[Bsz,Ws,Vi r (fun x b=>h x (by simp[b])),(h c Hd).len,Br7];omega
def Bmk{w:TW}{u b t n m c:Nat}{a:TA}{e J:TV}(h:w.ownsRow u b t (.s a n c) n (e++J))(f:e.length=m*t)(j:m<=n)(B:0<n):w.ownsRow u b t (.s a m c) m e:=by
 obtain⟨C,⟨i,D⟩|⟨g,F,l,i,p,q,G,v,z,A⟩⟩:=h
 ·omega
 simp only[Value.slice.injEq,Buw]at i;obtain⟨rfl,rfl⟩:=i;refine⟨f,.inr ⟨g,c,l,rfl,p,q,Ck,v,z,?_⟩⟩;have:=congrArg (List.take (m*t)) A;rw[Btw,Bum (Bwz _ j),<- f,List.take_left]at this;rw[<- f];exact this
def Dq.last{k:Cw}{A:List (Int×List Int)}{W:List Bi}{c:Bi}{z:TI}{v:Dd}{w:TW}(h:Dq k A (W++[c]) z v w):∃g,v.wa=some ⟨g,0,none⟩/\g<w.heap.size/\w.rangeAt g (W.length*20) c.cells/\W.length<v.wc/\v.wc<=maxLen:=by
 have b:=h.wait;obtain⟨g,l,m,_,p⟩:=Cf b Hd;have e:=Vi W (fun x q=>h.wwf x (by simp[q]));refine⟨g,l,m,fun j u f=>?_,?_⟩
 ·have C:=(List.getElem?_eq_some_iff.1 f).1;rw[p _ (by rw[Bst,Ws,e];simp;omega),Bst,Br0 Ck,e,show W.length*20+j-W.length*20=j by omega];simpa using f
 obtain⟨_,⟨_,s⟩|⟨D,F,G,i,_,_,t,B,_⟩⟩:=b
 ·simp at s
 simp only[Value.slice.injEq]at i;obtain⟨_,_,rfl⟩:=i;simp at t;exact⟨Ck,B⟩
def Dq.drop{k:Cw}{A:List (Int×List Int)}{W:List Bi}{c:Bi}{z:TI}{v:Dd}{w:TW}(h:Dq k A (W++[c]) z v w):Dq k A W z v w:=by
 refine⟨h.objs,h.ovl,h.obk,h.flds,?_,fun x b=>h.wwf x (by simp[b]),h.out,h.nd,h.keep,h.low,h.szs⟩;have e:=h.wait;rw[Bst]at e;exact Bmk e (Vi W (fun x b=>h.wwf x (by simp[b]))) Hd Hd
def Bdl(k:Cw)(S:Bo)(v:Dd)(w:TW)(h:Bw k S v w)(b:S.wait=[]):Calls prog 252 #[.q k.B 0] w fun e f=>e=.r (.bool false)/\Bw k S v f:=by
 have c:=h.sees.c32;rw[b]at c;simp at c;clear b;go_in;go_wp2;go_ret;exact⟨rfl,h⟩
def Wo(k:Cw)(S:Bo)(v:Dd)(W:List Bi)(c:Bi)(w:TW)(A:k.Ok)(h:Bw k S v w)(m:S.wait=W++[c]):Calls prog 252 #[.q k.B 0] w fun e J=>e=.r (.bool true)/\Bw k ⟨S.read,S.objs,c,W,S.ended,S.out,S.status,S.value,S.steps⟩ v J:=by
 have p:=h.sees.c32;have f:=h.rows;rw[m]at p f;obtain⟨g,t,a0,K,a1,L⟩:=f.last;have b:Dz c:=f.wwf c Hd;have C:=f.drop;have z:=h.blk;have N:S.wait.length=W.length+1:=by rw[m];simp
 rw[N]at z;have i:=Pe c.cells _ S.now.cells _ w (by rw[h.wf.len,b.len]) z;rw[Ij]at i;have D:=Rk k.B c.cells 12 w;have F:=C.gr A h.blk D;have O:w.there k.B 12 c.cells.toArray.size:=h.blk.there (o:=12) rfl (by rw[h.wf.len];simp[b.len]);have Q:(prog.info? 152).map (·.size)=some c.cells.toArray.size:=by rw[Tryz.infoCall];simp[b.len]
 have V:(prog.info? 152).map (·.size)=some c.cells.length:=by rw[Tryz.infoCall];simp[b.len]
 have Y:=Bui (Nl c);have l:=Sj (j:=0) (S':=⟨S.read,S.objs,c,W,S.ended,S.out,S.status,S.value,S.steps⟩) (v':=v) i (Ij _ _ _ _) (Lc _ _ _ _ _ _ _) b A Ck (.s v.wa W.length v.wc) rfl rfl rfl F;have G:=i.tail.cell (o:=32) (j:=0) (by rw[Ws,Ij,b.len]) (by rw[Lc];omega);have zf:=i.free 32;have I:(Gy v (W.length+1) S.out.length S.ended S.status S.value S.steps)[0]?=some (.s v.wa (W.length+1) v.wc):=rfl;rw[I,t]at G;rw[t]at p l;simp only[Ws,Bs8,Bvh]at p G l;have Z:=Bc l;have a2:v.wc<=9223372036854775807:=by unfold maxLen at L;omega
 clear i D F l z f C m t I h;go_in;go_wp2_with (first|(refine wpList_load_mid Ls 152 (.tmp 18) Ls g (W.length*20) Ls c.cells _ K Bu4 Ls V ?_)|(refine wpList_store_mid Ls 152 (.tmp 21) (.tmp 19) Ls k.B 12 c.cells.toArray Ls Ls O Q Y ?_))
 go_ret;exact⟨rfl,Ba Z⟩
def W7 (r:Option Nat):Int:=match r with
 | none=>0
 | some t=>(t:Int)
def Be2(k:Cw)(S:Bo)(v:Dd)(G:Int)(w:TW)(ok:k.Ok)(h:Bw k S v w)(hH:(k.E.meth S.now.meth).handlers.length<=1000/\∀x∈(k.E.meth S.now.meth).handlers,0<=x.target):Calls prog 285 #[.q k.B 0,.i G] w fun e I=>e=.r (.tuple #[.i (W7 (k.E.target G S.now)),.bool (k.E.target G S.now).isSome])/\Bl w I:=by
 have hm:=N8 k S v S.now.meth w ok h;have d4:=h.sees.c12;have b6:=h.sees.c13;have c2:=h.sees.c2;have c3:=h.sees.c3;have hT:=h.rows.tree ok;have a6:=h.blk.lt;have b7:=ok.tl;unfold Dn.target;have eT:k.E.T=k.T:=rfl;rw[eT];generalize k.E.meth S.now.meth=M at *;generalize f:Hi k.T G S.now.pos M.handlers=r;have Z:Hid (Hi k.T G S.now.pos (M.handlers.drop 0)=r):=f;obtain⟨d5,b8⟩:=hH;have HM:=Bc hm;clear hm h f eT;go_in;go_wp2_with fail;refine(Ba HM).mono ?_;rintro e w1 ⟨m,rfl,hM,b9⟩;have b2:=hM.hs;have b4:=hM.hl;obtain⟨m1,m2,m3,m4,m5,m6,m7,m8,m9,ma,mb,mc,md,me,mf,mg,mh,mi⟩:=m;simp only at b2 b4;subst b4;simp only[PM.val];have c0:∀w:TW,(Instr.field 133 (.agg #[.i m1,.i m2,.s m3 m4 m5,.i m6,.i m7,.i m8,.i m9,.s ma mb mc,.s md M.handlers.length mf,.s mg mh mi]) 7).run prog w=.ok (.s md M.handlers.length mf) w:=fun _=>Lt;clear HM hM;go_wp2;clear c0
 go_loopw [17] (fun i wr=>∃q:Nat,q<=M.handlers.length/\i=.i (q:Int)/\Hid (Hi k.T G S.now.pos (M.handlers.drop q)=r)/\Bl w1 wr)
  (fun i _=>M.handlers.length-(intOf i).toNat)
 case atStart=>exact⟨0,Ck,rfl,Z,Brm _ _⟩
 case round=>
  obtain⟨q,hq,rfl,Z,N⟩:=hrel;have O:=QB b9 N;by_cases z:q<M.handlers.length
  ·obtain⟨g,hg,a7,_,a4⟩:=Cf b2 Ck;have y0:=(N.cell (p:=.a g (q*4+0)) a7).trans ((a4 _ (Db M.handlers q z 0 Ck).2).trans (Db M.handlers q z 0 Ck).1);have y1:=(N.cell (p:=.a g (q*4+1)) a7).trans ((a4 _ (Db M.handlers q z 1 Ck).2).trans (Db M.handlers q z 1 Ck).1);have y2:=(N.cell (p:=.a g (q*4+2)) a7).trans ((a4 _ (Db M.handlers q z 2 Ck).2).trans (Db M.handlers q z 2 Ck).1);have y3:=(N.cell (p:=.a g (q*4+3)) a7).trans ((a4 _ (Db M.handlers q z 3 Ck).2).trans (Db M.handlers q z 3 Ck).1);have c1:=b8 _ (Brn z);have hd:M.handlers.drop q=M.handlers[q]::M.handlers.drop (q+1):=by rw[Brj z]
   have f:=Ba Z;rw[hd,Hi]at f;generalize M.handlers[q]=x at *;obtain⟨A,D,l,t⟩:=x;simp only at y0 y1 y2 y3 c1 f;have d2:=(O.cell (p:=.a k.B 2) a6).trans c2;have d3:=(O.cell (p:=.a k.B 3) a6).trans c3;have c4:=(O.cell (p:=.a k.B 13) a6).trans b6;have a8:k.B<wr.heap.size:=Brs a6 O.size;have c5:=hT.below O;have a9:=fun w=>Af ⟨A,D,l,t⟩ (S.now.pos:Int) w;have b0:=fun w hT=>Pb (ya:=k.ya) (yn:=k.lf.length) (yc:=k.yc) k.T k.tg k.tc G t w b7 hT;have qb:(q:Int)<(M.handlers.length:Int):=Ck;have c6:=N.alloc N.size (O19 A D l t);have CH:=Be wr (O19 A D l t);subst hg;simp at y0 y1 y2 y3;clear a4 hd Z b2;have j:=Sp CH;obtain⟨Q,V,L,Y⟩:=cl4 CH;have a0:Bl wr (wr.alloc (O19 A D l t)):=QN _;have e2:=(a0.cell (p:=.a k.B 2) a8).trans d2;have e3:=(a0.cell (p:=.a k.B 3) a8).trans d3;have a1:=(a0.cell (p:=.a k.B 13) a8).trans c4;have c7:=c5.below a0;have J:k.B<(wr.alloc (O19 A D l t)).heap.size:=Brs a8 a0.size;have b5:=QB O a0;have b1:Hid (Bl w1 (wr.alloc (O19 A D l t))):=c6;generalize c8:Fo ⟨A,D,l,t⟩ (S.now.pos:Int)=CV at *;generalize c9:Tr.within k.T G t=WI at *;clear c8 c9;have a2:=Bc (fun (_:Unit)=>f);clear f;go_wp2;generalize (wr.alloc (O19 A D l t))=wA at *;simp at Q V L Y;refine Br4 (S:=(fun I=>I.C wr.heap.size 0 (.i A)/\I.C wr.heap.size 1 (.i D)/\I.C wr.heap.size 2 (.i l)/\I.C wr.heap.size 3 (.i t)/\I.C k.B 13 (.i (S.now.pos:Int))/\I.C k.B 2 (.s (.p k.tg) k.T.length k.tc)/\I.C k.B 3 (.s k.ya k.lf.length k.yc))) Lt ⟨Q,V,L,Y,a1,e2,e3⟩ (fun b=>?_);refine tq 0 (.agg #[.i A,.i D,.i l,.i t]) b ?_;refine tq 1 (.q k.B 0) b ?_;refine tq 2 (.q k.B 0) b ?_;refine tq 3 (.q k.B 12) b ?_;refine tq 4 (.q k.B 13) b ?_;refine tq 5 (.i (S.now.pos:Int)) b ?_;refine tr 6 fun K hK=>?_;go_simp;refine Qm (a9 _) ?_;intro w7 c
   try dsimp only
   clear b;refine hK.out _ _ ⟨QC c j Q,QC c j V,QC c j L,QC c j Y,QC c J a1,QC c J e2,QC c J e3⟩ (fun b=>?_);clear hK K
   try simp only[QX]
   have f:=Ba a2 ();clear a2;cases CV with
   | false =>
    rw[Bt6,Pk Hd]at f;have a3:=Bc f;clear f b0;refine tq 7 (.bool false) b ?_;refine tn 8 undef b ?_;refine tn 9 undef b ?_;refine tn 10 undef b ?_;refine tn 11 undef b ?_;refine tn 12 undef b ?_;refine tn 13 undef b ?_;refine tn 14 undef b ?_;refine tn 15 undef b ?_;refine tq 16 (.bool false) b ?_;refine Bsg Lt ?_ _;have a5:=(Ba b1).drew.trans (c.mono (Ba b1).size);clear b Q V L Y e2 e3 a1 a9;go_wp2;go_roundw
    case rel=>exact⟨q+1,Ck,Mg,a3,a5⟩
    case measure=>simp[intOf];omega
   | true =>
    rw[Bts]at f;have a2:=Bc (fun (_:Unit)=>f);clear f;refine tq 7 (.bool true) b ?_;refine tq 8 (.q k.B 0) b ?_;refine tq 9 (.q k.B 0) b ?_;refine tq 10 (.q k.B 2) b ?_;refine tq 11 (.agg #[.s (.p k.tg) k.T.length k.tc,.s k.ya k.lf.length k.yc]) b ?_;refine tq 12 (.i G) b ?_;refine tq 13 (.q wr.heap.size 3) b ?_;refine tq 14 (.i t) b ?_;refine tr 15 fun K hK=>?_;go_simp;refine Qm (b0 _ ((show Dy wA.drew k.tg k.T from c7).below c)) ?_;intro w8 F
    try dsimp only
    clear b;refine hK.out _ _ ⟨QC F (QL c j) (QC c j Q),QC F (QL c j) (QC c j V),QC F (QL c j) (QC c j L),QC F (QL c j) (QC c j Y),QC F (QL c J) (QC c J a1),QC F (QL c J) (QC c J e2),QC F (QL c J) (QC c J e3)⟩ (fun b=>?_);clear hK K
    try simp only[QX]
    refine tq 16 (.bool WI) b ?_;refine Bsg Lt ?_ _;have f:=Ba a2 ();cases WI with
    | false =>
     rw[Pk Hd]at f;have a3:=Bc f;have a5:=(Ba b1).drew.trans (c.mono (Ba b1).size);have b3:=QB a5 F;clear b Q V L Y e2 e3 a1 a9 b0 f a2;go_wp2;go_roundw
     case rel=>exact⟨q+1,Ck,Mg,a3,b3⟩
     case measure=>simp[intOf];omega
    | true =>
     rw[Th rfl]at f;have a3:Hid (W7 r=l/\r.isSome=true):=by
      unfold Hid;rw[<- f];exact⟨by show ((l.toNat:Nat):Int)=l;omega,rfl⟩
     have a5:=b5.drew.trans (c.mono b5.size);have b3:=QB a5 F;have d6:=QC F (QL c j) (QC c j L);clear b Q V L Y e2 e3 a1 a9 b0 f a2;go_wp2;go_ret2;refine⟨?_,b3⟩;rw[(Ba a3).1,(Ba a3).2];rfl
  have d0:q=M.handlers.length:=Ck;subst d0;have f:=Ba Z;rw[List.drop_length]at f;have d1:r=none:=f.symm;clear f Z;subst d1;go_wp2;go_ret2;exact⟨rfl,O⟩
def Cw.Ok.hm{k:Cw}(g:k.Ok)(n:Int):(k.E.meth n).handlers.length<=1000/\∀x∈(k.E.meth n).handlers,0<=x.target:=by
 unfold Dn.meth
 split
 ·exact⟨by simp[Ef],fun x c=>by simp[Ef]at c⟩
 split
 ·exact⟨by simp[Ef],fun x c=>by simp[Ef]at c⟩
 rename_i h i;have j:k.E.ms.length=k.lms.length:=by simp[Cw.E]
 have f:n.toNat<k.lms.length:=Ck;have e:k.E.ms.getD n.toNat Ef=k.lms[n.toNat].1:=by
  rw[Vm];simp[Cw.E,f]
 rw[e];obtain⟨a,b⟩:=g.hn _ (Brn f);exact⟨a,fun x c=>(b x c).1⟩
def Big (k:Cw)(w:TW):Nat:=match w.cell? ⟨k.B,32,none⟩ with
 | some (.slice _ n _)=>n
 | _=>0
def Bw.wl{k:Cw}{S:Bo}{v:Dd}{w:TW}(h:Bw k S v w):Big k w=S.wait.length:=by
 unfold Big;rw[h.sees.c32]
def Bih:TX->Nat
 | .bool true=>1
 | _=>0
def Zu(k:Cw)(S:Bo)(v:Dd)(o:Int)(w:TW)(s:k.Ok)(h:Bw k S v w):Calls prog 253 #[.q k.B 0,.i o] w fun e w'=>e=.r (.tuple #[])/\∃j,Bw k (Lf k.E o S) j w':=by
 have V:=Tc k S v o w h;unfold Lf;generalize Ho o S.objs=C at *;generalize Y:Jd k.E o C (S.wait.length+1) S=R;have l:=Bc Y;have Z:=fun S v w h=>Be2 k S v C w s h (s.hm S.now.meth);have HT:=Bc Z;have m:=Bc h;clear Y Z h;go_in;go_wp2_with fail;refine Qm V ?_;rintro w1 rfl;go_wp2
 go_loopw [5] (fun b wr=>∃(f:Bo) (j:Dd),Hid (Bw k f j wr)/\((b=.bool true/\Hid (Jd k.E o C (f.wait.length+1) f=R))\/(b=.bool false/\Hid (f.fin 2 C=R))))
  (fun b wr=>Bih b*(1+Big k wr))
 case atStart=>exact⟨S,v,m,.inl ⟨rfl,l⟩⟩
 case round=>
  clear l m V;obtain⟨f,j,m,⟨rfl,l⟩|⟨rfl,l⟩⟩:=hrel
  ·have z:=Ba m;have G:=Ba HT f j wr z;have g:=Ba l;rw[Jd]at g;have a0:=z.wl;cases L:k.E.target C f.now with
   | some t =>
    rw[L]at G g;simp only at g;have A:=Bc g;clear g l m;go_wp2_with fail;refine Qm G ?_;intro N I;have p:=z.gr s I;have a1:=Bjv f.now o t k.B 12 156 _ _ N rfl p.wf p.blk;simp only[W7,Option.isSome];go_wp2_with fail;refine Qm a1 ?_;rintro w3 ⟨h3,a2⟩;have D:=p.now s a2 (Boh p.wf o t) h3;go_wp2;refine tb (.tuple #[]) (by simp[results,results253,go_sem]) ?_;exact⟨rfl,j,by rw[<- Ba A];exact D⟩
   | none =>
    rw[L]at G g;simp only at g;have z:=Ba m;cases F:f.wait.getLast? with
    | none =>
     rw[F]at g;simp only at g;have J:f.wait=[]:=by simpa using F
     have A:=Bc g;have K:=fun w h=>Bdl k f j w h J;clear g l m L F;go_wp2_with fail;refine Qm G ?_;intro N I;have p:=z.gr s I;simp only[W7,Option.isSome];go_wp2_with fail;refine Qm (K _ p) ?_;intro w3 D;have O:=Bc D;go_wp2;go_roundw
     case rel=>exact⟨f,j,O,.inr ⟨rfl,A⟩⟩
     case measure=>simp[Bih];omega
    | some c =>
     rw[F]at g;simp only at g;have J:f.wait=f.wait.dropLast++[c]:=by
      have:=List.getLast?_eq_some_iff.1 F;obtain⟨ys,e⟩:=this;rw[e];simp
     have Q:f.wait.length=f.wait.dropLast.length+1:=by
      conv=>lhs;rw[J]
      simp
     rw[Q]at g;have A:=Bc g;have K:=fun w h=>Wo k f j _ c w s h J;generalize f.wait.dropLast=W at *;have HL:=Bc Q;clear g l m L F J Q;go_wp2_with fail;refine Qm G ?_;intro N I;have p:=z.gr s I;simp only[W7,Option.isSome];go_wp2_with fail;refine Qm (K _ p) ?_;intro w3 D;have a3:=D.wl;have O:=Bc D;go_wp2;go_roundw
     case rel=>exact⟨_,j,O,.inl ⟨rfl,A⟩⟩
     case measure=>
      have:=Ba HL;simp[Bih,a0,a3];omega
  have z:=Ba m;have K:=Yv k f j 2 C wr s z;have A:=l;clear l m HT;go_wp2_with fail;refine Qm K ?_;intro N p;go_wp2;go_end0;exact⟨rfl,j,by rw[<- Ba A];exact p⟩
def Ht(k:Cw)(S:Bo)(v:Dd)(b:Int)(w:TW)(f:k.Ok)(h:Bw k S v w)(g:0<=b)(j:b<=100):Calls prog 242 #[.q k.B 0,.i b] w fun e l=>e=.r (.tuple #[])/\∃c,Bw k (Fd k.E b S) c l:=by
 have m:=Bff b w g j;have p:=Zu k S v (b-2+1) w f h;unfold Fd;generalize Lf k.E (b-2+1) S=R at *;generalize b-2+1=o at *;clear h;go_in;go_wp2_with fail;refine Qm m ?_;rintro t rfl;go_wp2_with fail;refine Qm p ?_;rintro z ⟨c,s⟩;go_wp2;go_end0;exact⟨rfl,c,s⟩
def Nc(k:Cw)(S:Bo)(v:Dd)(w:TW)(b:k.Ok)(h:Bw k S v w):Calls prog 240 #[.q k.B 12] w fun e c=>e=.r (.i S.top)/\Bw k S.popped v c :=
 (Is S.now k.B 12 156 _ _ w rfl h.wf h.blk).mono fun _ _ ⟨f,g,j⟩=>⟨f,h.now b j (Fc h.wf) g⟩
def Nb(k:Cw)(S:Bo)(v:Dd)(x:Int)(w:TW)(b:k.Ok)(h:Bw k S v w):Calls prog 238 #[.q k.B 12,.i x] w fun e c=>e=.r (.tuple #[])/\Bw k (S.push x) v c :=
 (Kv S.now x k.B 12 156 _ _ w rfl h.wf h.blk).mono fun _ _ ⟨f,g,j⟩=>⟨f,h.now b j (Ko h.wf x) g⟩
def Dq.addX{k:Cw}{A:List (Int×List Int)}{J:List Bi}{z:TI}{v:Dd}{w t:TW}(h:Dq k A J z v w)(K:k.Ok){e:TV}(L:w.heap[k.B]?=some (.cells e.toArray 156 (0,0))){x:Int}{g:TA}{u:Nat} (ho:t.ownsRow k.w0.heap.size 3 1 (.s g (z.length+1) u) (z.length+1) (z.map (Value.int .i64)++[.i x]))(m:w.grownBy t (Value.slice v.xa z.length v.xc).ownBlock) (a0:(Value.slice g (z.length+1) u).ownBlock=(Value.slice v.xa z.length v.xc).ownBlock\/(Value.slice g (z.length+1) u).ownBlock=some w.heap.size):Dq k A J (z++[x]) ⟨v.oa,v.oc,v.wa,v.wc,g,u,v.ov⟩ t/\t.heap[k.B]?=w.heap[k.B]?:=by
 have D:=h.out;have a1:∀c,(Value.slice v.xa z.length v.xc).ownBlock=some c->∃e:TV,w.heap[c]?=some (.cells e.toArray 3 (0,0)):=fun c C=>by
  obtain⟨_,⟨G,_⟩|⟨g',a6,a2,G,_,m,_⟩⟩:=D
  ·rw[G]at C;simp[Value.ownBlock]at C
  rw[G]at C;simp only[Value.ownBlock,Option.some.injEq]at C;subst C;exact⟨a2.toList,by simpa using m⟩
 have N:∀{b f O n:Nat}{x:TX}{Q:TV},w.ownsRow b f O x n Q->f≠3->t.ownsRow b f O x n Q:=fun I he=>Fz I (fun q p=>m.block q (I.lt q p).2 (fun f=>by
  obtain⟨e,hc⟩:=a1 q f.symm;exact Fl I hc he q p rfl))
 have a7:=K.Bs;have a8:=h.ovl;have a3:t.heap[k.B]?=w.heap[k.B]?:=m.block k.B (Sp L) (fun f=>Fl D L Fm k.B f.symm rfl);refine⟨⟨N h.objs Fm,h.ovl,h.obk,fun q p=>?_,N h.wait Fm,h.wwf,?_,?_,fun q V h2 h3=>?_,?_,Br5 h.szs m.size⟩,a3⟩
 ·exact Fz (h.flds q p) (fun j Y=>m.block j ((h.flds q p).lt j Y).2 (fun f=>h.out_ne p Y f.symm))
 ·unfold De;rw[Ws,Bs8,Bse];exact ho
 ·rw[Ws,Bs8];rcases a0 with f|f
  ·have:(Value.slice g (z.length+1) u::v.ov).filterMap Value.ownBlock=(Value.slice v.xa z.length v.xc::v.ov).filterMap Value.ownBlock:=by
    simp only[List.filterMap_cons,f]
   show ((Value.slice g (z.length+1) u::v.ov).filterMap Value.ownBlock).Nodup;rw[this];exact h.nd
  show ((Value.slice g (z.length+1) u::v.ov).filterMap Value.ownBlock).Nodup;rw[Bte f];have F:=h.nd;refine List.nodup_cons.2 ⟨fun hm=>?_,?_⟩
  ·obtain⟨l,hu,a4⟩:=List.mem_filterMap.1 hm;obtain⟨i,hi,rfl⟩:=Bvl hu;have a5:i<A.length:=Ck;have e2:v.ov.getD i (.s none 0 0)=v.ov[i]:=by rw[Vm,Brl hi];rfl
   have:=((h.flds i a5).lt w.heap.size (by rw[e2];exact a4)).2;omega
  cases Z:(Value.slice v.xa z.length v.xc).ownBlock with
  | none=>rw[Bt1 Z]at F;exact F
  | some y=>rw[Bte Z]at F;exact(List.nodup_cons.1 F).2
 ·rw[m.block q (Brs V h.szs) (fun f=>by have:=(D.lt q f.symm).1;omega)];exact h.keep q V h2 h3
 exact⟨m.os.trans h.low.os,m.tape.trans h.low.tape,m.output.trans h.low.output,Br5 h.low.size m.size,
  fun q p=>(m.block q (Brs p h.low.size) (fun f=>by have:=(D.lt q f.symm).1;have:=K.sz;omega)).trans (h.low.block q p)⟩
def Bmq(k:Cw)(S:Bo)(v:Dd)(w:TW)(f:k.Ok)(h:Bw k S v w)(a3:S.out.length<=100000):Calls prog 197 #[.q k.B 0] w fun e Y=>e=.r (.tuple #[])/\∃z,Bw k (Vd S) z Y:=by
 have A:=Nc k S v w f h;obtain⟨Z,hi,a0,a1,a2⟩:=Bsa Tryz.infoInt;have e:Vd S=⟨S.popped.read,S.popped.objs,S.popped.now,S.popped.wait,S.popped.ended,S.out++[S.top],S.popped.status,S.popped.value,S.popped.steps⟩:=rfl;rw[e];generalize S.top=x at *;clear h e;go_in;go_wp2_with fail;refine Qm A ?_;intro g b;have a4:g.C k.B 34 (.s v.xa S.out.length v.xc):=b.sees.c34;have a5:=b.sees.fr 34;have a6:=b.rows.szs;have D:g.ownsRow k.w0.heap.size 3 1 (.s v.xa S.out.length v.xc) S.out.length (S.out.map (Value.int .i64)):=b.rows.out;have F:=Bc b;clear b A;go_wp2_with (at_builtin;refine Btl _ rfl _ _ 26 rfl k.w0.heap.size 3 Z _ 1 8 Bta hi a0 a1 a2 rfl Fm _ _ _ rfl (D.alloc _) ⟨g.heap.size,0,none⟩ 1 1 [.i x] rfl rfl ?c1 ?c2 ?c3 ?c4 ?c5 ?_)
 case c1=>exact Dh _ _ _ _ rfl
 case c2=>intro u G;simp at G;subst G;rfl
 case c3=>unfold maxLen;omega
 case c4=>omega
 case c5=>simp;omega
 intro z w2 m I _ J;obtain⟨p,t,rfl⟩:=Bh m;have c:=(Ba F).gr f (QN (O4 x));have K:(Value.slice p (S.out.length+1) t).ownBlock=(Value.slice v.xa S.out.length v.xc).ownBlock\/(Value.slice p (S.out.length+1) t).ownBlock=some (g.alloc (O4 x)).heap.size:=by simpa using J
 obtain⟨L,N⟩:=c.rows.addX f c.blk m I K;have l:Mid w2 k.B 156 (Iv k S.popped.read S.popped.objs.length v) S.popped.now.cells (Gy v S.popped.wait.length S.popped.out.length S.popped.ended S.popped.status S.popped.value S.popped.steps):=N.trans c.blk;have O:(Iv k S.popped.read S.popped.objs.length v++S.popped.now.cells).length=32:=by rw[Ws,Ij,c.wf.len]
 have Q:=l.tail.cell (j:=2) O (by rw[Lc];omega);have a7:=l.free 34;have V:(Gy v S.popped.wait.length S.popped.out.length S.popped.ended S.popped.status S.popped.value S.popped.steps)[2]?=some (.s v.xa S.out.length v.xc):=rfl;rw[V]at Q;simp only[Nat.reduceAdd]at Q;have HM:=Bc l;have HR:=Bc L;have HW:=Bc c.wf;clear l L c F m I J K N D V O;go_wp2;go_end0;refine⟨rfl,⟨v.oa,v.oc,v.wa,v.wc,p,t,v.ov⟩,?_⟩;exact Sj (j:=2) (Ba HM) (Ij _ _ _ _) (Lc _ _ _ _ _ _ _) (Ba HW) f Ck _ rfl rfl (by simp[Gy,Bo.popped,Bo.withNow]) (Ba HR)
def Boy(k:Cw)(S:Bo)(v:Dd)(w:TW)(b:k.Ok)(h:Bw k S v w)(K:S.read<=100000):Calls prog 196 #[.q k.B 0] w fun e A=>e=.r (.tuple #[])/\Bw k (Po k.E S) v A:=by
 have L:=h.sees.c9;have C:=h.sees.c5;have N:=h.sees.fr 9;have O:=b.il;have l:=h.rows.ints b;unfold Po;have m:k.E.ins=k.ins:=rfl;rw[m];have Q:decide ((0:Int)<=(S.read:Int))=true:=Hd;by_cases c:S.read<k.ins.length
 ·rw[Th c];obtain⟨g,o,D,V,Y⟩:=l S.read c;have F:decide ((S.read:Int)<(k.ins.length:Int))=true:=by simpa using c
  have G:decide (S.read<k.ins.length)=true:=by simpa using c
  have I:(S.read:Int)<(k.ins.length:Int):=Ck;rw[D]at C;generalize k.ins.getD S.read 0=x at *;have t:∀n,Bw k ⟨S.read+1,S.objs,S.now,S.wait,S.ended,S.out,S.status,S.value,S.steps⟩ v ((w.drewN n).setCell (.a k.B 9) (.i ((S.read:Int)+1))):=fun n=>(h.drewN b n).setPre b (j:=9) Ck _ rfl rfl rfl (h.drewN b n).rows;have f:∀n,_:=fun n=>Nb k _ v x _ b (t n);have p:=Bc f;clear h l m t f;go_in;go_wp2;go_quiet (fail);go_wp2;go_quiet (fail);go_wp2_with fail;refine Qm (Ba p _) ?_;intro J s;go_wp2;go_end0;exact⟨rfl,s⟩
 rw[Pk c];have F:decide ((S.read:Int)<(k.ins.length:Int))=false:=by simpa using c
 have G:decide (S.read<k.ins.length)=false:=by simpa using c
 have I:¬(S.read:Int)<(k.ins.length:Int):=Ck;have f:∀z,_:=fun z=>Nb k _ v 0 _ b (h.drewN b z);have p:=Bc f;clear h l m f;go_in;go_wp2;go_quiet (fail);go_wp2_with fail;refine Qm (Ba p _) ?_;intro J s;go_wp2;go_end0;exact⟨rfl,s⟩
def Be3(k:Cw)(S:Bo)(v:Dd)(op:Int)(w:TW)(c:k.Ok)(h:Bw k S v w):Calls prog 189 #[.q k.B 0,.i op] w fun e t=>e=.r (.tuple #[])/\∃g,Bw k (L6 k.E op S) g t:=by
 have p:=Nc k S v w c h;have s:=fun w h=>Nc k S.popped v w c h;have b:=fun w=>Bb4 op S.popped.top S.top w;have A:=fun x w h=>Nb k S.popped.popped v x w c h;have C:=fun w h=>Ht k S.popped.popped v 2 w c h Ck Ck;unfold L6;generalize S.popped.top=x at *;generalize S.top=y at *;clear h;cases f:Ia op x y with
 | none =>
  rw[f]at b;simp only[Option.getD_none,Bvr]at b;clear f;go_in;go_wp2_with fail;refine Qm p ?_;intro D j;go_wp2_with fail;refine Qm (s _ j) ?_;intro F l;go_wp2_with fail;refine Qm (b _) ?_;rintro G rfl;go_wp2_with fail;refine Qm (C _ l) ?_;rintro I ⟨g,m⟩;go_wp2;refine tb (.tuple #[]) (by simp[results,results189,go_sem]) ?_;exact⟨rfl,g,m⟩
 | some z =>
  rw[f]at b;simp only[Bwb,Option.isSome_some]at b;clear f;go_in;go_wp2_with fail;refine Qm p ?_;intro D j;go_wp2_with fail;refine Qm (s _ j) ?_;intro F l;go_wp2_with fail;refine Qm (b _) ?_;rintro G rfl;go_wp2_with fail;refine Qm (A z _ l) ?_;intro I m;go_wp2;go_end0;exact⟨rfl,v,m⟩
def Zv(k:Cw)(S:Bo)(v:Dd)(w:TW)(f:k.Ok)(h:Bw k S v w):Calls prog 195 #[.q k.B 0] w fun e l=>e=.r (.tuple #[])/\∃b,Bw k (Jc k.E S) b l:=by
 have j:=Nc k S v w f h;have m:=fun w h=>Ht k S.popped v 3 w f h Ck Ck;have p:=fun w h=>Zu k S.popped v S.top w f h;unfold Jc;generalize S.top=x at *;clear h;by_cases c:x=0;·rw[Th c];subst c;go_in;go_wp2_with fail;refine Qm j ?_;intro s g;go_wp2_with fail;refine Qm (m _ g) ?_;rintro t ⟨b,i⟩;go_wp2;refine tb (.tuple #[]) (by simp[results,results195,go_sem]) ?_;exact⟨rfl,b,i⟩
 rw[Pk c];have z:(x==0)=false:=by simp[c]
 clear c;go_in;go_wp2_with fail;refine Qm j ?_;intro s g;go_wp2_with fail;refine Qm (p _ g) ?_;rintro t ⟨b,i⟩;go_wp2;go_end0;exact⟨rfl,b,i⟩
def Be6(k:Cw)(S:Bo)(v:Dd)(c:Int)(w:TW)(f:k.Ok)(h:Bw k S v w)(s:S.objs.length<=1000):Calls prog 243 #[.q k.B 0,.i c] w fun e A=>e=.r (.tuple #[])/\∃g,Bw k (L7 k.E c S) g A:=by
 unfold L7;have t:k.E.room=k.room:=rfl;rw[t];clear t;by_cases b:k.room<=(S.objs.length:Int)-5;·rw[Th b];have j:=Bdn k S v c w f h s b;have l:=fun w h=>Ht k S v 5 w f h Ck Ck;clear h b;go_in;go_wp2_with fail;refine Qm j ?_;intro C m;go_wp2_with fail;refine Qm (l _ m) ?_;rintro D ⟨g,p⟩;go_wp2;refine tb (.tuple #[]) (by simp[results,results243,go_sem]) ?_;exact⟨rfl,g,p⟩
 rw[Pk b];have j:=Bm0 k S v c w f h s b;have l:=fun v w h=>Nb k (S.withObjs (S.objs++[(c,[])])) v ((S.objs.length:Int)+1) w f h;clear h b;go_in;go_wp2_with fail;refine Qm j ?_;rintro C ⟨z,m⟩;go_wp2_with fail;refine Qm (l z _ m) ?_;intro D p;go_wp2;go_end0;exact⟨rfl,z,p⟩
def TyR.at2{w s:TW}{l:TX}{q:TP}(h:TyR w l q)(f:∀j,l.ownBlock=some j->s.heap[j]?=w.heap[j]?):TyR s l q:=by
 rcases h with h|⟨g,o,c,i,b,m,p,t,z⟩
 ·exact .inl h
 have e:=f g (by rw[b];rfl);exact .inr ⟨g,o,c,i,b,e.trans m,p,t,fun j x A=>by rw[Brr (a:=⟨g,o+j,none⟩) e];exact z j x A⟩
def TyR.blk_lt{w:TW}{l:TX}{q:TP}(h:TyR w l q){u:Nat}(b:l.ownBlock=some u):u<w.heap.size:=by
 rcases h with ⟨rfl,_⟩|⟨g,o,c,i,e,f,_⟩
 ·simp[Value.ownBlock]at b
 rw[e]at b;simp only[Value.ownBlock,Option.some.injEq]at b;rw[<- b];exact Sp f
def Dq.fldsIn{k:Cw}{A:List (Int×List Int)}{g:List Bi}{z:TI}{v:Dd}{w:TW}(h:Dq k A g z v w)(e:k.Ok):Lx w k.bf (.s k.ya k.lf.length k.yc) k.lf:=by
 obtain⟨a,b⟩:=e.fl;refine⟨Fz a (fun j c=>h.keep j (a.lt j c).2 (e.fB j c).1 (e.fB j c).2),fun p f=>(b p f).at2 (fun j c=>?_)⟩;obtain⟨x,y⟩:=e.fy p f j c;exact h.keep j ((b p f).blk_lt c) x y
def Bc7(n:Int):∀(b:List (List (Int×Int))) (c f:Int),(∀l∈b,l.length<=10)->0<=c->(Dw n b c f).1<=c+b.length/\-1<=(Dw n b c f).1/\0<=(Dw n b c f).2/\(Dw n b c f).2<=10
 | [],c,f,_,hc=>by simp[Dw];omega
 | l::r,c,f,h,hc=>by
  unfold Dw;have i:=h l Hd
  split
  ·rename_i e;obtain⟨j,m⟩:=e;simp only[Br7];omega
  have:=Bc7 n r (c+1) (f+(l.length:Int)) (fun x g=>h x (by simp[g])) Ck;simp only[Br7];omega
def Bal(T:TI)(j m:Nat)(l:List (Value×List (Int×Int)))(z:Nat)(ya:TA)(yc:Nat)(n:Int)(w:TW)(Q:l.length<=14)(V:T.length<=1000)(Y:0<=n/\n<=100000)(t:∀p∈l,p.2.length<=10)(Z:Dy w j T)(hF:Lx w z (.s ya l.length yc) l):Calls prog 281 #[.agg #[.s (.p j) T.length m,.s ya l.length yc],.i n] w fun e b=>e=.r (.i (Il T (l.map Prod.snd) n))/\Bl w b:=by
 have C:=fun b (h:Bl w b)=>Ba1 (aa:=some ⟨j,0,none⟩) (an:=T.length) (ac:=m) l z ya yc n b Ck Y (fun p f=>by have:=t p f;omega) (hF.below h);have D:=fun c b (h:Bl w b)=>Bfy (aa:=some ⟨j,0,none⟩) (an:=T.length) (ac:=m) l z ya yc c b Ck (hF.below h);have F:=fun c b (h:Bl w b)=>Ti T j m l z ya yc c b Q V (fun p f=>by have:=t p f;omega) (Z.below h) (hF.below h);have J:=Bc7 n (l.map Prod.snd) 0 0 (fun x hx=>by obtain⟨p,f,rfl⟩:=List.mem_map.1 hx;exact t p f) Ck;have G:∀c,(Dk T (l.map Prod.snd) c).length<=1000*14:=fun c=>by
  have:=Mm T (l.map Prod.snd) c (fun p f=>by obtain⟨q,hq,rfl⟩:=List.mem_map.1 f;have:=t q hq;omega) (l.map Prod.snd).length;unfold Dk;rw[Br1]at this ⊢;omega
 have I:∀c,(Ln (l.map Prod.snd) c).length<=10:=fun c=>by
  unfold Ln
  split
  ·simp
  rw[Vm];cases hg:(l.map Prod.snd)[c.toNat]? with
  | none=>simp
  | some x =>
   obtain⟨p,f,rfl⟩:=List.mem_map.1 (Bs6 hg);exact t p f
 unfold Il;generalize Dw n (l.map Prod.snd) 0 0=oo at *;obtain⟨g,oi⟩:=oo;simp only at C J ⊢;obtain⟨-,b1,b2,b3⟩:=J;have A:Bl w (w.alloc (O2 (.p j) T.length m ya l.length yc)):=QN _;have a0:=Be w (O2 (.p j) T.length m ya l.length yc);by_cases v:g = -1;·rw[Th v];subst v;clear D F G I;go_in;go_wp2_with fail;refine Qb (C _ A) A ?_;intro w1 K B;go_wp2;go_ret;exact⟨rfl,B⟩
 rw[Pk v];have a5:(g == -1)=false:=by simp[v]
 have a6:=G g;have a7:=I g;have a1:=F g;have a2:=D g;clear v G I F D;generalize Dk T (l.map Prod.snd) g=FA at *;generalize Ln (l.map Prod.snd) g=FO at *;go_in;go_wp2_with fail;refine Qb (C _ A) A ?_;intro w1 K B;have L:=stay K a0;obtain⟨t0,t1⟩:=cl2 L;simp at t0 t1;go_wp2_with fail;refine(a1 _ B).mono ?_;rintro e w2 ⟨xa,xc,rfl,-,N⟩;have O:=QB B N;have C2:=stay N L;obtain⟨u0,u1⟩:=cl2 C2;simp at u0 u1;go_wp2_with fail;refine(a2 _ O).mono ?_;rintro e w3 ⟨za,zc,rfl,-,a3⟩;have a4:=QB O a3;go_wp2;go_ret;exact⟨rfl,a4⟩
def Bj4(k:Cw)(S:Bo)(v:Dd)(m:Int)(w:TW)(g:k.Ok)(h:Bw k S v w):Calls prog 247 #[.q k.B 0,.i m] w fun e L=>e=.r (.tuple #[])/\∃s,Bw k (Oz k.E m S) s L:=by
 have t:=Nc k S v w g h;have p:=fun w h=>Tc k S.popped v S.top w h;have z:=fun w h=>Nb k S.popped v S.top w g h;have j:=fun w h=>Ht k S.popped v 4 w g h Ck Ck;have N:=g.tl;unfold Oz;have F:k.E.T=k.T:=rfl;have G:S.popped.objs=S.objs:=rfl;rw[F];rw[G]at p;generalize S.top=x at *;generalize Ho x S.objs=c at *;have A:=fun w j=>Pb (ya:=k.ya) (yn:=k.lf.length) (yc:=k.yc) k.T k.tg k.tc c m w N j;clear h F G;by_cases l:x=0;·rw[Th l];subst l;clear A j;go_in;go_wp2_with fail;refine Qm t ?_;intro I f;go_wp2_with fail;refine Qm (p _ f) ?_;rintro J rfl;go_wp2_with fail;refine Qm (z _ f) ?_;intro K O;go_wp2;go_end0;exact⟨rfl,v,O⟩
 rw[Pk l];have Z:(x != 0)=true:=by simp[l]
 clear l;generalize Tr.within k.T c m=b at *;cases b with
 | true =>
  rw[Th rfl];clear j;go_in;go_wp2_with fail;refine Qm t ?_;intro I f;go_wp2_with fail;refine Qm (p _ f) ?_;rintro J rfl;have Q:=f.sees.c2;have V:=f.sees.c3;go_wp2_with fail;refine Qm (A _ (f.rows.tree g)) ?_;intro K C;go_wp2_with fail;refine Qm (z _ (f.gr g C)) ?_;intro Y D;go_wp2;go_end0;exact⟨rfl,v,D⟩
 | false =>
  rw[Pk Hd];clear z;go_in;go_wp2_with fail;refine Qm t ?_;intro I f;go_wp2_with fail;refine Qm (p _ f) ?_;rintro J rfl;have Q:=f.sees.c2;have V:=f.sees.c3;go_wp2_with fail;refine Qm (A _ (f.rows.tree g)) ?_;intro K C;go_wp2_with fail;refine Qm (j _ (f.gr g C)) ?_;rintro Y ⟨s,D⟩;go_wp2;refine tb (.tuple #[]) (by simp[results,results247,go_sem]) ?_;exact⟨rfl,s,D⟩
def Bca(k:Cw)(S:Bo)(v:Dd)(n:Int)(w:TW)(b:k.Ok)(h:Bw k S v w)(G:0<=n/\n<=100000):Calls prog 245 #[.q k.B 0,.i n] w fun e I=>e=.r (.tuple #[])/\∃l,Bw k (Ke k.E n S) l I:=by
 have p:=Nc k S v w b h;have g:=fun w h=>Ht k S.popped v 3 w b h Ck Ck;have t:=fun w g hF=>Bal k.T k.tg k.tc k.lf k.bf k.ya k.yc n w b.f14 b.tl G b.ff g hF;have j:=fun s w h=>Bmt k S.popped v S.top s w h;have z:=fun x w h=>Nb k S.popped v x w b h;unfold Ke;have A:Il k.E.T k.E.FL n=Il k.T (k.lf.map Prod.snd) n:=rfl;have C:S.popped.objs=S.objs:=rfl;rw[A];rw[C]at j;generalize S.top=x at *;generalize Il k.T (k.lf.map Prod.snd) n=D at *;clear h A C;by_cases f:x=0;·rw[Th f];subst f;clear t j z;go_in;go_wp2_with fail;refine Qm p ?_;intro J c;go_wp2_with fail;refine Qm (g _ c) ?_;rintro K ⟨l,m⟩;go_wp2;refine tb (.tuple #[]) (by simp[results,results245,go_sem]) ?_;exact⟨rfl,l,m⟩
 rw[Pk f];have N:(x==0)=false:=by simp[f]
 clear f g;have L:=j D;clear j;generalize Ss x D S.objs=y at *;go_in;go_wp2_with fail;refine Qm p ?_;intro J c;have O:=c.sees.c2;have Q:=c.sees.c3;go_wp2_with fail;refine Qm (t _ (c.rows.tree b) (c.rows.fldsIn b)) ?_;intro V F;go_wp2_with fail;refine Qm (L _ (c.gr b F)) ?_;rintro Y rfl;go_wp2_with fail;refine Qm (z _ _ (c.gr b F)) ?_;intro K m;go_wp2;go_end0;exact⟨rfl,v,m⟩
def Bb5(k:Cw)(S:Bo)(v:Dd)(n:Int)(w:TW)(b:k.Ok)(h:Bw k S v w)(F:0<=n/\n<=100000):Calls prog 246 #[.q k.B 0,.i n] w fun e G=>e=.r (.tuple #[])/\∃l,Bw k (Kd k.E n S) l G:=by
 have t:=Nc k S v w b h;have z:=fun w h=>Nc k S.popped v w b h;have g:=fun w h=>Ht k S.popped.popped v 3 w b h Ck Ck;have A:=fun w g hF=>Bal k.T k.tg k.tc k.lf k.bf k.ya k.yc n w b.f14 b.tl F b.ff g hF;have j:=fun s w h=>Bmp k S.popped.popped v S.popped.top s S.top w b h;unfold Kd;have C:Il k.E.T k.E.FL n=Il k.T (k.lf.map Prod.snd) n:=rfl;have D:S.popped.popped.objs=S.objs:=rfl;rw[C];rw[D]at j;generalize S.popped.top=x at *;generalize S.top=y at *;generalize Il k.T (k.lf.map Prod.snd) n=I at *;clear h C D;by_cases f:x=0;·rw[Th f];subst f;clear A j;go_in;go_wp2_with fail;refine Qm t ?_;intro J m;go_wp2_with fail;refine Qm (z _ m) ?_;intro K c;go_wp2_with fail;refine Qm (g _ c) ?_;rintro L ⟨l,p⟩;go_wp2;refine tb (.tuple #[]) (by simp[results,results246,go_sem]) ?_;exact⟨rfl,l,p⟩
 rw[Pk f];have Q:(x==0)=false:=by simp[f]
 clear f g;have N:=j I;clear j;go_in;go_wp2_with fail;refine Qm t ?_;intro J m;go_wp2_with fail;refine Qm (z _ m) ?_;intro K c;have V:=c.sees.c2;have Y:=c.sees.c3;go_wp2_with fail;refine Qm (A _ (c.rows.tree b) (c.rows.fldsIn b)) ?_;intro Z O;go_wp2_with fail;refine Qm (N _ (c.gr b O)) ?_;intro L p;go_wp2;go_end0;exact⟨rfl,v,p⟩
structure Rc(k:Cw)(S:Bo)(v:Dd)(w:World)(g n:Nat)(l:List Int):Prop where
 ints:De w k.w0.heap.size (.slice (some ⟨g,0,none⟩) n n) l
 ne:∀x∈(Value.slice v.xa S.out.length v.xc::v.ov),x.ownBlock≠some g
 nB:g≠k.B
 len:l.length=n
def Wp(k:Cw)(S:Bo)(v:Dd)(f:TA)(n g:Nat)(w:TW)(m:k.Ok)(h:Bw k S v w)(t:n<=1000):Calls prog 248 #[.q k.B 12,.s f n g] w fun e b=>e=.r (.s (.p w.heap.size) n n)/\Rc k S v b w.heap.size n (Ih n S)/\Bw k (Fs n S) v b/\Gr k.B w b:=by
 refine(Be4 S.now f n g k.B 12 156 _ _ w rfl h.wf t h.blk).mono fun e b ⟨z,A,C,j⟩=>⟨z,⟨D6 A h.rows.szs,?_,?_,Sx n S.now⟩,h.now m j (Ax n h.wf) C,j⟩
 ·intro x c l;rcases List.mem_cons.1 c with rfl|c
  ·have:=(h.rows.out.lt _ l).2;omega
  obtain⟨i,D,rfl⟩:=Bvl c;have F:i<S.objs.length:=by have:=h.rows.ovl;omega
  have G:v.ov.getD i (.s none 0 0)=v.ov[i]:=by rw[Vm,Brl D];rfl
  have:=((h.rows.flds i F).lt _ (by rw[G];exact l)).2;omega
 have:=h.blk.lt;omega
def Rc.gr{k:Cw}{S:Bo}{v:Dd}{w s:TW}{u n:Nat}{z:TI}(h:Rc k S v w u n z)(c:Gr k.B w s):Rc k S v s u n z :=
 ⟨Fz h.ints (fun j b=>by
  have:u=j:=by simpa[Value.ownBlock] using b
  exact c.blk (h.ints.lt j b).2 (by rw[<- this];exact h.nB)),h.ne,h.nB,h.len⟩
def Ay(k:Cw)(S:Bo)(v:Dd)(c:Int)(w:TW)(b:k.Ok)(h:Bw k S v w):Calls prog 244 #[.q k.B 0,.i c] w fun e Q=>e=.r (.tuple #[])/\∃z,Bw k (Lq k.E c S) z Q:=by
 have c2:=h.sees.c2;have c3:=h.sees.c3;have hF:=Ti k.T k.tg k.tc k.lf k.bf k.ya k.yc c w b.f14 b.tl (fun p j=>by have:=b.ff p j;omega) (h.rows.tree b) (h.rows.fldsIn b);have a9:(Dk k.T (k.lf.map Prod.snd) c).length<=140:=by
  have:=Mm k.T (k.lf.map Prod.snd) c (fun p j=>by obtain⟨q,A,rfl⟩:=List.mem_map.1 j;have:=b.ff q A;omega);have V:∀d,d<=14->(Ek k.T (k.lf.map Prod.snd) c d).length<=10*d:=by
   intro d hd;clear this
   induction d with
   | zero=>simp[Ek]
   | succ d ih =>
    rw[Ek,Ws];have F:=ih Ck;have l:(if Tr.within k.T c (d:Int)=true then (k.lf.map Prod.snd).getD d [] else []).length<=10:=by
     split
     ·rw[Vm];cases Y:(k.lf.map Prod.snd)[d]? with
      | none=>simp
      | some x =>
       obtain⟨p,j,rfl⟩:=List.mem_map.1 (Bs6 Y);exact b.ff p j
     simp
    omega
  have:=V (k.lf.map Prod.snd).length (by rw[Br1];exact b.f14);unfold Dk;rw[Br1]at this ⊢;have:=b.f14;omega
 unfold Lq;have G:Dk k.E.T k.E.FL c=Dk k.T (k.lf.map Prod.snd) c:=rfl;rw[G];generalize Dk k.T (k.lf.map Prod.snd) c=f at *;have Z:=fun w la lc h=>Wp k S v la f.length lc w b h Ck;have HA:=Bc h;clear h G;generalize a0:Ih f.length S=t at *;have I:(Fs f.length S).popped.objs=S.objs:=rfl;rw[<- I];have eX:(Fs f.length S).out=S.out:=rfl;generalize a1:Fs f.length S=g at *;clear a0 a1 I;generalize J:g.top=r at *;have a2:=Bc J;clear J;have a3:=fun fa fc w h C m=>Bmn k g.popped v r fa fc t w b h C m;go_in;go_wp2_with fail;refine hF.mono ?_;rintro e D ⟨xa,xc,rfl,-,a4⟩;have F:=(Ba HA).gr b a4;go_wp2_with fail;refine Qm (Z _ _ _ F) ?_;rintro w2 ⟨m,l,-⟩;have a5:=Is g.now k.B 12 156 _ _ w2 rfl l.wf l.blk;go_wp2_with fail;refine Qm a5 ?_;rintro K ⟨a6,L⟩;have h3:Bw k g.popped v K:=l.now b L (Fc l.wf) a6;have a7:=m.gr L;have N:=m.len;have C:De K k.w0.heap.size (.s (.p D.heap.size) t.length f.length) t:=by rw[N];exact a7.ints
 have a8:∀q,(Value.slice (.p D.heap.size) t.length f.length).ownBlock=some q->∀x∈(Value.slice v.xa g.popped.out.length v.xc::v.ov),x.ownBlock≠some q:=fun q A x hx=>by
  have:D.heap.size=q:=by simpa[Value.ownBlock] using A
  rw[<- this];exact m.ne x (by rw[<- eX];exact hx)
 have O:=a3 _ _ _ h3 C a8;rw[N]at O;have e5:(Bv g.now).1=r:=Ba a2;rw[e5];go_wp2_with fail;refine Qm O ?_;rintro w4 ⟨z,h4⟩;go_wp2;go_end0;exact⟨rfl,z,h4⟩
def Bcb(k:Cw)(S:Bo)(v:Dd)(w:TW)(h:Bw k S v w)(b:S.wait=[]):Calls prog 252 #[.q k.B 0] w fun e f=>e=.r (.bool false)/\f=w:=by
 have c:=h.sees.c32;rw[b]at c;simp at c;clear b;go_in;go_wp2;go_ret;exact⟨rfl,rfl⟩
def Bb9(k:Cw)(S:Bo)(v:Dd)(w:TW)(l:k.Ok)(h:Bw k S v w):Calls prog 194 #[.q k.B 0] w fun e w'=>e=.r (.tuple #[])/\∃v',Bw k (Jq k.E S) v' w':=by
 have hm:=N8 k S v S.now.meth w l h;have b3:=h.sees.c12;have HP:Hid (∀w,Bw k S v w->Calls prog 240 #[.q k.B 12] w fun e w'=>e=.r (.i S.top)/\Bw k S.popped v w'/\Gr k.B w w'):=fun w h =>
  (Is S.now k.B 12 156 _ _ w rfl h.wf h.blk).mono fun e w' ⟨he,j,hg⟩=>⟨he,h.now l hg (Fc h.wf) j,hg⟩
 have HA:=Bc h;unfold Jq;generalize k.E.meth S.now.meth=M at *;have a8:=fun S w h z=>Bcb k S v w h z;have a9:=fun S W c w h z=>Wo k S v W c w l h z;have hF:=fun S x w h=>Yv k S v 0 x w l h;have hU:=fun S x w h=>Nb k S v x w l h;have C:=Bc hm;have a4:=Bc a8;have b0:=Bc a9;have HF:=Bc hF;have HU:=Bc hU;clear hm h a8 a9 hF hU;have ew:S.popped.wait=S.wait:=rfl;by_cases D:M.result.1=0
 ·rw[Th D];unfold Kf;cases z:S.wait.getLast? with
  | none =>
   have F:S.wait=[]:=by simpa using z
   simp only;have e:(if M.result.1=1 then (0:Int) else 0)=0:=by split<;>rfl
   rw[e];clear e z;go_in;go_wp2_with fail;refine(Ba C).mono ?_;rintro e p ⟨m,rfl,j,t⟩;have f:=j.r1;have g:=(Ba HA).gr l t;obtain⟨I,J,K,L,N,A,b,O,Q,V,Y,Z,md,me,mf,mg,mh,mi⟩:=m;simp only at f;rw[D]at f;subst f;simp only[PM.val];have a2:∀w:TW,(Instr.field 133 (.agg #[.i I,.i J,.s K L N,.i 0,.i b,.i O,.i Q,.s V Y Z,.s md me mf,.s mg mh mi]) 3).run prog w=.ok (.agg #[.i 0,.i b]) w:=fun _=>Lt;have G:=g.gr l (QN (O7 0 b));have hK:=Be p (O7 0 b);have a0:p.heap.size≠k.B:=by have:=g.blk.lt;omega
   clear j t g C;have y0:=Bb hK 0;simp at y0;go_wp2_with fail;refine Qm (Ba a4 _ _ G F) ?_;rintro w3 rfl;go_wp2_with fail;refine Qm (Ba HF _ _ _ G) ?_;intro w4 h4;go_wp2;go_end0;exact⟨rfl,v,h4⟩
  | some c =>
   have F:S.wait=S.wait.dropLast++[c]:=by
    obtain⟨ys,e⟩:=List.getLast?_eq_some_iff.1 z;rw[e];simp
   simp only;rw[Th D];generalize S.wait.dropLast=W at *;have a5:=Bc F;clear z F;go_in;go_wp2_with fail;refine(Ba C).mono ?_;rintro e p ⟨m,rfl,j,t⟩;have f:=j.r1;have g:=(Ba HA).gr l t;obtain⟨I,J,K,L,N,A,b,O,Q,V,Y,Z,md,me,mf,mg,mh,mi⟩:=m;simp only at f;rw[D]at f;subst f;simp only[PM.val];have a2:∀w:TW,(Instr.field 133 (.agg #[.i I,.i J,.s K L N,.i 0,.i b,.i O,.i Q,.s V Y Z,.s md me mf,.s mg mh mi]) 3).run prog w=.ok (.agg #[.i 0,.i b]) w:=fun _=>Lt;have G:=g.gr l (QN (O7 0 b));have hK:=Be p (O7 0 b);have a0:p.heap.size≠k.B:=by have:=g.blk.lt;omega
   clear j t g C;go_wp2_with fail;refine Qm (Ba b0 _ _ _ _ G (Ba a5)) ?_;intro w3 h3;go_wp2;go_end0;exact⟨rfl,v,h3⟩
 rw[Pk D];have a6:(M.result.1 != 0)=true:=by simpa using D
 unfold Kf;rw[ew];cases z:S.wait.getLast? with
 | none =>
  have F:S.popped.wait=[]:=by rw[ew];simpa using z
  simp only;clear z;by_cases a1:M.result.1=1
  ·rw[Th a1];have b1:=Bc a1;clear D a1;go_in;go_wp2_with fail;refine(Ba C).mono ?_;rintro e p ⟨m,rfl,j,t⟩;have f:=j.r1;have g:=(Ba HA).gr l t;obtain⟨I,J,K,L,N,A,b,O,Q,V,Y,Z,md,me,mf,mg,mh,mi⟩:=m;simp only at f;rw[Ba b1]at f a6;subst f;simp only[PM.val];have a2:∀w:TW,(Instr.field 133 (.agg #[.i I,.i J,.s K L N,.i 1,.i b,.i O,.i Q,.s V Y Z,.s md me mf,.s mg mh mi]) 3).run prog w=.ok (.agg #[.i 1,.i b]) w:=fun _=>Lt;have G:=g.gr l (QN (O7 1 b));have hK:=Be p (O7 1 b);have a0:p.heap.size≠k.B:=by have:=g.blk.lt;omega
   clear j t g C;go_wp2_with fail;refine Qm (Ba HP _ G) ?_;rintro w3 ⟨h3,a3⟩;have a7:=a3.own hK a0;have y0:=Bb a7 0;simp at y0;go_wp2_with fail;refine Qm (Ba a4 _ _ h3 F) ?_;rintro w4 rfl;go_wp2_with fail;refine Qm (Ba HF _ _ _ h3) ?_;intro w5 h5;go_wp2;go_end0;exact⟨rfl,v,h5⟩
  rw[Pk a1];have b2:(M.result.1==1)=false:=by simpa using a1
  clear D a1;go_in;go_wp2_with fail;refine(Ba C).mono ?_;rintro e p ⟨m,rfl,j,t⟩;have f:=j.r1;have g:=(Ba HA).gr l t;obtain⟨I,J,K,L,N,A,b,O,Q,V,Y,Z,md,me,mf,mg,mh,mi⟩:=m;simp only at f;rw[<- f]at a6 b2;clear f;simp only[PM.val];have a2:∀w:TW,(Instr.field 133 (.agg #[.i I,.i J,.s K L N,.i A,.i b,.i O,.i Q,.s V Y Z,.s md me mf,.s mg mh mi]) 3).run prog w=.ok (.agg #[.i A,.i b]) w:=fun _=>Lt;have G:=g.gr l (QN (O7 A b));have hK:=Be p (O7 A b);have a0:p.heap.size≠k.B:=by have:=g.blk.lt;omega
  clear j t g C;go_wp2_with fail;refine Qm (Ba HP _ G) ?_;rintro w3 ⟨h3,a3⟩;have a7:=a3.own hK a0;have y0:=Bb a7 0;simp at y0;go_wp2_with fail;refine Qm (Ba a4 _ _ h3 F) ?_;rintro w4 rfl;go_wp2_with fail;refine Qm (Ba HF _ _ _ h3) ?_;intro w5 h5;go_wp2;go_end0;exact⟨rfl,v,h5⟩
 | some c =>
  have F:S.popped.wait=S.wait.dropLast++[c]:=by
   obtain⟨ys,e⟩:=List.getLast?_eq_some_iff.1 z;rw[ew,e];simp
  simp only;rw[Pk D];generalize S.wait.dropLast=W at *;have a5:=Bc F;clear z F D;go_in;go_wp2_with fail;refine(Ba C).mono ?_;rintro e p ⟨m,rfl,j,t⟩;have f:=j.r1;have g:=(Ba HA).gr l t;obtain⟨I,J,K,L,N,A,b,O,Q,V,Y,Z,md,me,mf,mg,mh,mi⟩:=m;simp only at f;rw[<- f]at a6;clear f;simp only[PM.val];have a2:∀w:TW,(Instr.field 133 (.agg #[.i I,.i J,.s K L N,.i A,.i b,.i O,.i Q,.s V Y Z,.s md me mf,.s mg mh mi]) 3).run prog w=.ok (.agg #[.i A,.i b]) w:=fun _=>Lt;have G:=g.gr l (QN (O7 A b));have hK:=Be p (O7 A b);have a0:p.heap.size≠k.B:=by have:=g.blk.lt;omega
  clear j t g C;go_wp2_with fail;refine Qm (Ba HP _ G) ?_;rintro w3 ⟨h3,a3⟩;go_wp2_with fail;refine Qm (Ba b0 _ _ _ _ h3 (Ba a5)) ?_;intro w4 h4;go_wp2_with fail;refine Qm (Ba HU _ S.top _ h4) ?_;intro w5 h5;go_wp2;go_end0;exact⟨rfl,v,h5⟩
def Tryz.infoCall3:(prog.info? 152).map (fun i=>(i.zero,i.size,i.bytes))=some (some (.agg #[.i 0,.i 0,.i 0,.i 0,.i 0,.i 0,.i 0,.i 0,.i 0,.i 0,.i 0,.i 0,.i 0,.i 0,.i 0,.i 0,.i 0,.i 0,.i 0,.i 0]),20,160):=Lt
def Bms(b c e f g h i j l m q t v z A B C D F G:TX)(w:TW):(Instr.buildSlice 154 1 #[(0,.agg #[b,c,e,f,g,h,i,j,l,m,q,t,v,z,A,B,C,D,F,G])]).run prog w=.ok (.s (.p w.heap.size) 1 1) (w.alloc (.cells #[b,c,e,f,g,h,i,j,l,m,q,t,v,z,A,B,C,D,F,G] 152)):=Lt
def Bre(c:Array Value)(h:c.size=20):∃b e f g i j m p q s t v z A B C D F G I,c = #[b,e,f,g,i,j,m,p,q,s,t,v,z,A,B,C,D,F,G,I]:=by
 obtain⟨l⟩:=c;have J:l.length=20:=h
 match l,J with
 | [b,e,f,g,i,j,m,p,q,s,t,v,z,A,B,C,D,F,G,I],_=>exact⟨b,e,f,g,i,j,m,p,q,s,t,v,z,A,B,C,D,F,G,I,rfl⟩
def Bj3(c:Array Value)(h:c.size=20)(w:TW):(Instr.buildSlice 154 1 #[(0,.agg c)]).run prog w=.ok (.s (.p w.heap.size) 1 1) (w.alloc (.cells c 152)):=by
 obtain⟨b,e,f,g,i,j,l,m,q,t,v,z,A,B,C,D,F,G,I,J,rfl⟩:=Bre c h;exact Bms _ _ _ _ _ _ _ _ _ _ _ _ _ _ _ _ _ _ _ _ w
def Baq{w:TW}{u:Nat}{e:TV}{j:TypeId}(f:w.heap[u]?=some (.cells e.toArray j (0,0))):∀b c,e[b]?=some c->w.cell? ((⟨u,0,none⟩:Addr).add b)=some c:=fun b c h=>by
 rw[Addr.add_mid,Brz,Bb f];simpa using h
def Xn{b:Array Oper}{o:Oper}{a:Act}{w:TW}{K:Act->TW->Prop}{Q:Exit->Act->TW->Prop}{E:Prop}(e:o.guard=none)(x:Operand)(f:o.op=.buildSlice 154 1 #[(0,x)]) (c:Array Value)(g:c.size=20)(i:a.eval x=.agg c)(h:K (a.put o.dst (.s (.p w.heap.size) 1 1)) (w.alloc (.cells c 152))):if Region.wanted o (yielded b a.tmps)=true then Oper.wp prog o a w K Q else E:=by
 have j:Region.wanted o (yielded b a.tmps)=true:=by simp[Region.wanted,e]
 rw[Th j];have l:=Bj3 c g w;unfold Oper.wp execOp;simp only[f,List.map_toArray,Bsw,Buu,i,Bw4,l,Bv2,Bw5];exact h
def Dq.addW{k:Cw}{A:List (Int×List Int)}{W:List Bi}{z:TI}{v:Dd}{w m:TW}(h:Dq k A W z v w)(J:k.Ok){e:TV}(K:w.heap[k.B]?=some (.cells e.toArray 156 (0,0))){c:Bi}(D:Dz c){g:TA}{wc:Nat} (Q:m.ownsRow k.w0.heap.size 152 20 (.s g (W.length+1) wc) (W.length+1) (W.flatMap Bi.cells++c.cells))(j:w.grownBy m (Value.slice v.wa W.length v.wc).ownBlock):Dq k A (W++[c]) z ⟨v.oa,v.oc,g,wc,v.xa,v.xc,v.ov⟩ m/\m.heap[k.B]?=w.heap[k.B]?:=by
 have C:=h.wait;have V:∀f,(Value.slice v.wa W.length v.wc).ownBlock=some f->∃e:TV,w.heap[f]?=some (.cells e.toArray 152 (0,0)):=fun f p=>by
  obtain⟨_,⟨F,_⟩|⟨g',a1,Y,F,_,j,_⟩⟩:=C
  ·rw[F]at p;simp[Value.ownBlock]at p
  rw[F]at p;simp only[Value.ownBlock,Option.some.injEq]at p;subst p;exact⟨Y.toList,by simpa using j⟩
 have G:∀{b i L n:Nat}{x:TX}{N:TV},w.ownsRow b i L x n N->i≠152->m.ownsRow b i L x n N:=fun I Z=>Fz I (fun q l=>j.block q (I.lt q l).2 (fun i=>by
  obtain⟨e,D⟩:=V q i.symm;exact Fl I D Z q l rfl))
 have a2:=J.Bs;have a0:m.heap[k.B]?=w.heap[k.B]?:=j.block k.B (Sp K) (fun i=>Fl C K Fm k.B i.symm rfl);refine⟨⟨G h.objs Fm,h.ovl,h.obk,fun q l=>G (h.flds q l) Fm,?_,fun x t=>?_,G h.out Fm,h.nd,fun q O h2 h3=>?_,?_,Br5 h.szs j.size⟩,a0⟩
 ·rw[Ws,Bs8,Bst];simpa using Q
 ·rcases List.mem_append.1 t with t|t
  ·exact h.wwf x t
  rw[List.mem_singleton.1 t];exact D
 ·rw[j.block q (Brs O h.szs) (fun i=>by have:=(C.lt q i.symm).1;omega)];exact h.keep q O h2 h3
 exact⟨j.os.trans h.low.os,j.tape.trans h.low.tape,j.output.trans h.low.output,Br5 h.low.size j.size,
  fun q l=>(j.block q (Brs l h.low.size) (fun i=>by have:=(C.lt q i.symm).1;have:=J.sz;omega)).trans (h.low.block q l)⟩
def Bb6(k:Cw)(S:Bo)(v:Dd)(m:Int)(x:TX)(w:TW)(f:k.Ok)(h:Bw k S v w)(j:∃a n c,x=.s a n c)(z:S.wait.length<=1000)(A:k.depth<=(S.wait.length:Int)+1):Calls prog 249 #[.q k.B 0,.i m,x] w fun e l=>e=.r (.tuple #[])/\∃b,Bw k (Fd k.E 6 S) b l:=by
 obtain⟨C,D,F,rfl⟩:=j;have G:=h.sees.c32;have I:=h.sees.c7;have g:∀n,_:=fun n=>Ht k S v 6 _ f (h.drewN f n) Ck Ck;have p:=Bc g;clear h g;go_in;go_wp2;go_quiet (fail);go_wp2_with fail;refine Qm (Ba p _) ?_;rintro J ⟨b,t⟩;go_wp2;refine tb (.tuple #[]) (by simp[results,results249,go_sem]) ?_;exact⟨rfl,b,t⟩
def Bb7(k:Cw)(S:Bo)(v:Dd)(m:Int)(l:TA)(p I:Nat)(c:TI)(w:TW)(A:k.Ok)(h:Bw k S v w)(O:De w I (.s l c.length p) c)(c0:c.length<=1000)(a6:∀j,(Value.slice l c.length p).ownBlock=some j->j≠k.B/\(Value.slice v.wa S.wait.length v.wc).ownBlock≠some j)(hw:S.wait.length<=1000)(hd:¬k.depth<=(S.wait.length:Int)+1):Calls prog 249 #[.q k.B 0,.i m,.s l c.length p] w fun e Z=>e=.r (.tuple #[])/\∃v',Bw k (S.opened (Cn m c)) v' Z:=by
 have c1:=h.sees.c32;have c7:=h.sees.c7;obtain⟨i0,hi,c2,c3,c4⟩:=Bsa Tryz.infoCall3;have D:=h.wf;have a0:S.now.cells.toArray.size=20:=by simp[D.len]
 have c5:(prog.info? 152).map (·.size)=some S.now.cells.length:=by rw[Tryz.infoCall];simp[D.len]
 have d5:=fun w=>Bj3 S.now.cells.toArray a0 w;have HA:Hid (∀n,Bw k S v (w.drewN n)):=fun n=>h.drewN A n;have HX:=Bc O;have a7:=Bc a6;have a8:=fun w O=>Xw m l p c I w c0 O;have a9:=Bc a8;clear h O a6 a8;go_in;go_wp2;go_quiet (fail);rename_i nq;have t:=Ba HA nq;have F:(w.drewN nq).rangeAt k.B 12 S.now.cells:=t.blk.range rfl;have c6:=t.sees.c32;have a1:=t.rows.wait;have Q:Hid (De (w.drewN nq) I (.s l c.length p) c):=Ba HX;have H1:=Bc t;have d6:=t.rows.szs;have d7:=t.blk.lt;clear HX HA t c1 c7;generalize w.drewN nq=wd at *;go_wp2;refine Br4 (S:=(fun Z=>Z.rangeAt k.B 12 S.now.cells)) Lt F (fun b=>?_);refine tq 0 (.q k.B 0) b ?_;refine tq 1 (.q k.B 0) b ?_;refine tq 2 (.q k.B 0) b ?_;refine tq 3 (.q k.B 32) b ?_;refine tq 5 (.q k.B 0) b ?_;refine tq 6 (.q k.B 0) b ?_;refine tq 7 (.q k.B 12) b ?_;refine Bun (i:=8) (oi:=⟨_,_,_,_,_,_⟩) (v:=.agg S.now.cells.toArray) rfl Lt Lt Lt (fun _ _ _ h=>h) (yieldsIf_load_mid Ls 152 (.tmp 27) Ls k.B 12 Ls S.now.cells _ (fun _ hS=>hS) Bu4 Ls c5) b ?_
 try simp only[QX]
 refine Brv (rs:=[4,9]) Lt Hd ?_;refine Bri (o:=⟨_,_,_,_,_,_⟩) rfl (fun K f=>?_) (Bri (o:=⟨_,_,_,_,_,_⟩) rfl (fun K f=>?_) Bro);go_simp;clear b;refine f.out _ _ F (fun b=>?_);clear f K
 try simp only[QX]
 refine tr 9 fun K f=>?_;refine Xn Ls _ Ls S.now.cells.toArray a0 Ls ?_;clear b;refine f.out _ _ (Bvm F _) (fun b=>?_);clear f K
 try simp only[QX]
 rotate_left
 refine Xn Ls _ Ls S.now.cells.toArray a0 Ls ?_;clear b;refine f.out _ _ (Bvm F _) (fun b=>?_);clear f K
 try simp only[QX]
 refine tr 4 fun K f=>?_;go_simp;clear b;refine f.out _ _ (Bvm F _) (fun b=>?_);clear f K
 try simp only[QX]
 all_goals
  refine tr 10 fun K f=>?_;refine Jr Ls _ _ _ Ls k.w0.heap.size 152 i0 _ 20 160 underlying154 hi c2 c3 c4 rfl Ck _ _ _ Ls (Fz a1 (fun j z=>Br2 _ _ _ (a1.lt j z).2)) ⟨wd.heap.size,0,none⟩ 1 1 S.now.cells Ls (by simp[D.len]) (Baq (Be wd.drew (.cells S.now.cells.toArray 152))) (Nl S.now) Pf Ck Fr ?_;intro v' g a2 a3 c8;obtain⟨J,L,rfl⟩:=Bh a2;have b0:Bl wd (wd.drew.alloc (.cells S.now.cells.toArray 152)):=(Brm _ _).drew.alloc (Bru _) _;have V:=(Ba H1).gr A b0;obtain⟨b1,b2⟩:=V.rows.addW A V.blk D a2 a3;have N:=(show Mid g k.B 156 _ _ _ from b2.trans V.blk);have b3:g.rangeAt k.B 12 S.now.cells:=N.range rfl;have z0:=N.tail.cell (o:=32) (j:=0) (by rw[Ws,Ij,D.len]) (by rw[Lc];omega);have zf:=N.free 32;have d8:g.C k.B 32 (.s v.wa S.wait.length v.wc):=z0;have b4:De g I (.s l c.length p) c:=Fz (Ba Q) (fun j z=>(a3.block j (by have:=((Ba Q).lt j z).2;simp;omega) (fun e=>(Ba a7 j z).2 e.symm)).trans (Br2 _ _ _ ((Ba Q).lt j z).2));have a4:Bw k ⟨S.read,S.objs,S.now,S.wait++[S.now],S.ended,S.out,S.status,S.value,S.steps⟩ ⟨v.oa,v.oc,J,L,v.xa,v.xc,v.ov⟩ (g.setCell (.a k.B 32) (.s J (S.wait.length+1) L)):=Sj (j:=0) N (Ij _ _ _ _) (Lc _ _ _ _ _ _ _) D A Ck _ rfl rfl (by simp[Gy]) b1;have b5:De (g.setCell (.a k.B 32) (.s J (S.wait.length+1) L)) I (.s l c.length p) c:=Fz b4 (fun j z=>Brk _ _ _ _ (by simpa using (Ba a7 j z).1));have b6:=Bc a4;have b7:=Bc b5;have b8:(g.setCell (.a k.B 32) (.s J (S.wait.length+1) L)).rangeAt k.B 12 S.now.cells:=a4.blk.range rfl;clear a2 a3 c8 b0 V b1 b2 N z0 b4 a4 b5 b;refine f.out _ _ b3 (fun b=>?_);clear f K
  try simp only[QX]
  refine tq 11 (.q k.B 0) b ?_;refine tq 12 (.q k.B 32) b ?_;refine tr 13 fun K f=>?_;go_simp;clear b;refine f.out _ _ b8 (fun b=>?_);clear f K
  try simp only[QX]
  refine Bsg Lt ?_ _;clear F b3 b8 c6 a1 H1 Q;generalize c9:g.setCell (.a k.B 32) (.s J (S.wait.length+1) L)=w3 at *;clear c9;go_wp2_with fail;refine Qm (Ba a9 _ (Ba b7)) ?_;intro w4 d0;have G:=(Ba b6).gr A d0;have Y:=Ph m c;have d1:w4.there k.B 12 (Cn m c).cells.toArray.size:=G.blk.there (o:=12) rfl (by rw[G.wf.len];simp[Y.len]);have d2:(prog.info? 152).map (·.size)=some (Cn m c).cells.toArray.size:=by rw[Tryz.infoCall];simp[Y.len]
  have d3:=Bui (Nl (Cn m c));have a5:=Pe (Cn m c).cells _ _ _ w4 (by rw[G.wf.len,Y.len]) G.blk;rw[Ij]at a5;have b9:=G.now A (Rk k.B (Cn m c).cells 12 w4) Y a5;have d4:=Bc b9;clear b9 a5 G b6 b7 a9;go_wp2_with (refine wpList_store_mid Ls 152 (.tmp 38) (.tmp 36) Ls k.B 12 (Cn m c).cells.toArray Ls Ls d1 d2 d3 ?_)
  go_end0;exact⟨rfl,_,Ba d4⟩
def Cw.Ok.pm{k:Cw}(c:k.Ok)(n:Int):(k.E.meth n).params.length<=10:=by
 unfold Dn.meth
 split
 ·simp[Ef]
 split
 ·simp[Ef]
 rename_i f g;have h:k.E.ms.length=k.lms.length:=by simp[Cw.E]
 have b:n.toNat<k.lms.length:=Ck;have e:k.E.ms.getD n.toNat Ef=k.lms[n.toNat].1:=by
  rw[Vm];simp[Cw.E,b]
 rw[e];exact c.ps _ (Brn b)
def Ba5(k:Cw)(S:Bo)(v:Dd)(m:Int)(g:TA)(l:Nat)(b:TI)(w:TW)(z:k.Ok)(h:Bw k S v w)(p:De w k.w0.heap.size (.s g b.length l) b)(F:b.length<=1000)(A:S.wait.length<=1000):Calls prog 249 #[.q k.B 0,.i m,.s g b.length l] w fun e G=>e=.r (.tuple #[])/\∃I,Bw k (Hj k.E m b S) I G:=by
 unfold Hj;have J:k.E.depth=k.depth:=rfl;rw[J];by_cases f:k.depth<=(S.wait.length:Int)+1;·rw[Th f];exact Bb6 k S v m _ w z h ⟨_,_,_,rfl⟩ A f
 rw[Pk f];refine Bb7 k S v m g l _ b w z h p F (fun j C=>⟨Fl p h.blk Fm j C,fun c=>?_⟩) A f;obtain⟨_,⟨t,_⟩|⟨D,O,K,t,_,L,_⟩⟩:=h.rows.wait
 ·rw[t]at c;simp[Value.ownBlock]at c
 rw[t]at c;simp only[Value.ownBlock,Option.some.injEq]at c;subst c;have N:w.heap[D]?=some (.cells K.toList.toArray 152 (0,0)):=by simpa using L
 exact Fl p N Fm D C rfl
def Bj5(k:Cw)(S:Bo)(v:Dd)(n:Int)(w:TW)(c:k.Ok)(h:Bw k S v w)(hw:S.wait.length<=1000):Calls prog 192 #[.q k.B 0,.i n] w fun e b=>e=.r (.tuple #[])/\∃f,Bw k (Su k.E n S) f b:=by
 have hm:=N8 k S v n w c h;have a7:=c.pm n;unfold Su;generalize k.E.meth n=M at *;have HO:Hid (∀w l t,Bw k (Fs M.params.length S) v w->De w k.w0.heap.size (.s l M.params.length t) (Ih M.params.length S)->Calls prog 249 #[.q k.B 0,.i n,.s l M.params.length t] w fun e b=>e=.r (.tuple #[])/\∃f,Bw k (Hj k.E n (Ih M.params.length S) (Fs M.params.length S)) f b):=by
  intro w l t h hx;have hl:(Ih M.params.length S).length=M.params.length:=Sx _ _;have:=Ba5 k (Fs M.params.length S) v n l t (Ih M.params.length S) w c h (by rw[hl];exact hx) Ck hw;rw[hl]at this;exact this
 have a2:Hid (∀w A D,Bw k S v w->Calls prog 248 #[.q k.B 12,.s A M.params.length D] w fun e b=>e=.r (.s (.p w.heap.size) M.params.length M.params.length)/\Rc k S v b w.heap.size M.params.length (Ih M.params.length S)/\Bw k (Fs M.params.length S) v b/\Gr k.B w b):=by
  intro w A D h;exact Wp k S v A M.params.length D w c h Ck
 have HA:=Bc h;have HM:=Bc hm;have a8:=h.blk.lt;clear h hm;go_in;go_wp2_with fail;refine(Ba HM).mono ?_;rintro e z ⟨m,rfl,hM,a0⟩;have F:=(Ba HA).gr c a0;have a1:=hM.pl;obtain⟨G,I,g,m4,j,J,K,L,N,O,Q,V,Y,Z,mf,mg,mh,mi⟩:=m;simp only at a1;subst a1;simp only[PM.val];have h2:=F.gr c (QN (O18 G I g M.params.length j J K L N O Q V Y Z mf mg mh mi));have CQ:=Be z (O18 G I g M.params.length j J K L N O Q V Y Z mf mg mh mi);have a3:z.heap.size≠k.B:=by have:=F.blk.lt;omega
 have q2:=(Bb CQ 2).trans (show _=some (.s g M.params.length j) from rfl);have H2:=Bc h2;clear HM hM a0 F h2 HA;go_wp2;generalize z.alloc (O18 G I g M.params.length j J K L N O Q V Y Z mf mg mh mi)=wA at *
 go_region_held3 (fun b=>b.C z.heap.size 2 (.s g M.params.length j))
  (first|exact q2|exact(Bb (a4.own (show wA.drew.heap[_]?=_ from CQ) a3) 2).trans rfl)
  (first|(go_at_call 248;refine(Ba a2 _ _ _ ((Ba H2).drew c)).mono ?_;rintro e w7 ⟨rfl,a5,a6,a4⟩))
 clear q2 CQ;go_wp2_with fail;refine Qm (Ba HO _ _ _ a6 a5.ints) ?_;rintro w8 ⟨f,h8⟩;go_wp2;go_end0;exact⟨rfl,f,h8⟩
def Bdk(k:Cw)(S:Bo)(v:Dd)(j t:Int)(w:TW)(ok:k.Ok)(h:Bw k S v w):Calls prog 251 #[.q k.B 0,.i j,.i t] w fun e L=>e=.r (.i (k.E.nearest j t))/\Bl w L:=by
 have c1:=h.sees.c1;have c2:=h.sees.c2;have c3:=h.sees.c3;have hT:=h.rows.tree ok;have a3:=h.blk.lt;have b2:=ok.tl;have c0:=ok.ml;have b3:=Bc (h.rows.mths ok);have eE:k.E.nearest j t=Gp k.T j t (k.lms.map Prod.fst) 0 0 0:=rfl;rw[eE];generalize c:Gp k.T j t (k.lms.map Prod.fst) 0 0 0=r;have F:Hid (Gp k.T j t ((k.lms.map Prod.fst).drop 0) ((0:Nat):Int) 0 0=r):=c;generalize k.ma=MA at *;clear h c eE;go_in;go_wp2
 go_loopw [7,8,17] (fun fv hv iv wr=>∃(q:Nat) (f z:Int),q<=k.lms.length/\fv=.i f/\hv=.i z/\iv=.i (q:Int)/\Hid (Gp k.T j t ((k.lms.map Prod.fst).drop q) (q:Int) f z=r)/\Bl w wr)
  (fun _ _ i _=>k.lms.length-(intOf i).toNat)
 case atStart=>exact⟨0,0,0,Ck,rfl,rfl,rfl,F,Brm _ _⟩
 case round=>
  clear F;obtain⟨q,f,z,hq,rfl,rfl,rfl,F,G⟩:=hrel;have a5:=G.size;by_cases a6:q<k.lms.length
  ·have a7:=Ba b3;have a8:=a7.kp (Kp.of_below (e:=none) G) Fm Fm Fm Fm Fm;obtain⟨m,g,hg,c4,Ev,hM⟩:=a8.mth a6;obtain⟨y0,y1,y2,y3,y4,y5,y6,y7,y8,y9⟩:=T5 Ev;have a9:=hM.cl;have b0:=hM.nm;have hd:(k.lms.map Prod.fst).drop q=k.lms[q].1::(k.lms.map Prod.fst).drop (q+1):=by rw[Brj (by simpa using a6)];simp
   have c:=Ba F;rw[hd,Gp,<- a9,<- b0]at c;obtain⟨l,A,m3,m4,m5,m6,m7,m8,m9,ma,mb,mc,md,me,mf,mg,mh,mi⟩:=m;simp only at y0 y1 y2 y3 y4 y5 y6 y7 y8 y9 c;have d2:=(G.cell (p:=.a k.B 2) a3).trans c2;have d3:=(G.cell (p:=.a k.B 3) a3).trans c3;have a4:k.B<wr.heap.size:=Brs a3 a5;have b1:=hT.below G;have a1:=fun w hT=>Pb (ya:=k.ya) (yn:=k.lf.length) (yc:=k.yc) k.T k.tg k.tc j l w b2 hT;have qb:(q:Int)<(k.lms.length:Int):=Ck;have N:Bl wr (wr.alloc (O18 l A m3 m4 m5 m6 m7 m8 m9 ma mb mc md me mf mg mh mi)):=QN _;have CH:=Be wr (O18 l A m3 m4 m5 m6 m7 m8 m9 ma mb mc md me mf mg mh mi);have lH:=Sp CH;have I:=(Bb CH 0).trans (show _=some (.i l) from rfl);have O:=(Bb CH 1).trans (show _=some (.i A) from rfl);have Q:=(N.cell (p:=.a k.B 2) a4).trans d2;have V:=(N.cell (p:=.a k.B 3) a4).trans d3;have b4:=b1.below N;have lB:k.B<(wr.alloc (O18 l A m3 m4 m5 m6 m7 m8 m9 ma mb mc md me mf mg mh mi)).heap.size:=Brs a4 N.size;have a2:Hid (Bl w (wr.alloc (O18 l A m3 m4 m5 m6 m7 m8 m9 ma mb mc md me mf mg mh mi))):=G.trans (N.mono a5);subst hg;generalize b5:Tr.within k.T j l=WI at *;clear Ev hd F a7 a8 hM b5 a9 b0 N d2 d3 b1;obtain⟨a,b6⟩:∃a,(A==t)=a:=⟨_,rfl⟩;obtain⟨Y,b7⟩:∃Y,decide (z<=l)=Y:=⟨_,rfl⟩;rw[b6,b7]at c;have D:=Bc (fun (_:Unit)=>c);clear c;go_wp2;generalize (wr.alloc (O18 l A m3 m4 m5 m6 m7 m8 m9 ma mb mc md me mf mg mh mi))=wA at *;refine Br4 (S:=(fun L=>L.C wr.heap.size 0 (.i l)/\L.C wr.heap.size 1 (.i A)/\L.C k.B 2 (.s (.p k.tg) k.T.length k.tc)/\L.C k.B 3 (.s k.ya k.lf.length k.yc))) Lt ⟨I,O,Q,V⟩ (fun b=>?_);refine tq 0 (.q wr.heap.size 1) b ?_;refine tq 1 (.i A) b ?_;refine tq 2 (.i t) b ?_;refine tq 3 (.bool a) b ?_;refine tq 4 (.bool a) b ?_;have c:=Ba D ();clear D;cases a with
   | false =>
    rw[Bt6,Pk Hd]at c;have J:Hid (Gp k.T j t ((k.lms.map Prod.fst).drop (q+1)) ((q+1:Nat):Int) f z=r):=c;clear c a1;refine tn 5 undef b ?_;refine tn 6 undef b ?_;refine tn 7 undef b ?_;refine tn 8 undef b ?_;refine tq 9 (.bool false) b ?_;refine tq 10 (.bool false) b ?_;refine tn 11 undef b ?_;refine tn 12 undef b ?_;refine tn 13 undef b ?_;refine tn 14 undef b ?_;refine tn 15 undef b ?_;refine tn 16 undef b ?_;refine tn 17 undef b ?_;refine tn 18 undef b ?_;refine tq 19 (.bool false) b ?_;refine Bsg Lt ?_ _;have Z:=(Ba a2).drew;clear b I O Q V;go_wp2;go_roundw
    case rel=>exact⟨q+1,f,z,Ck,rfl,rfl,Mg,J,Z⟩
    case measure=>simp[intOf];omega
   | true =>
    rw[Bts]at c;have D:=Bc (fun (_:Unit)=>c);clear c;refine tq 5 (.q wr.heap.size 0) b ?_;refine tq 6 (.i l) b ?_;refine tq 7 (.i z) b ?_;refine tq 8 (.bool Y) b ?_;refine tq 9 (.bool Y) b ?_;refine tq 10 (.bool Y) b ?_;have c:=Ba D ();clear D;cases Y with
    | false =>
     rw[Bt6,Pk Hd]at c;have J:Hid (Gp k.T j t ((k.lms.map Prod.fst).drop (q+1)) ((q+1:Nat):Int) f z=r):=c;clear c a1;refine tn 11 undef b ?_;refine tn 12 undef b ?_;refine tn 13 undef b ?_;refine tn 14 undef b ?_;refine tn 15 undef b ?_;refine tn 16 undef b ?_;refine tn 17 undef b ?_;refine tn 18 undef b ?_;refine tq 19 (.bool false) b ?_;refine Bsg Lt ?_ _;have Z:=(Ba a2).drew;clear b I O Q V;go_wp2;go_roundw
     case rel=>exact⟨q+1,f,z,Ck,rfl,rfl,Mg,J,Z⟩
     case measure=>simp[intOf];omega
    | true =>
     rw[Bts]at c;have D:=Bc (fun (_:Unit)=>c);clear c;refine tq 11 (.q k.B 0) b ?_;refine tq 12 (.q k.B 0) b ?_;refine tq 13 (.q k.B 2) b ?_;refine tq 14 (.agg #[.s (.p k.tg) k.T.length k.tc,.s k.ya k.lf.length k.yc]) b ?_;refine tq 15 (.i j) b ?_;refine tq 16 (.q wr.heap.size 0) b ?_;refine tq 17 (.i l) b ?_;refine tr 18 fun K hK=>?_;go_simp;refine Qm (a1 wA.drew (show Dy wA.drew k.tg k.T from b4)) ?_;intro w7 a0
     try dsimp only
     clear b;refine hK.out _ _ ⟨QC a0 lH I,QC a0 lH O,QC a0 lB Q,QC a0 lB V⟩ (fun b=>?_);clear hK K
     try simp only[QX]
     refine tq 19 (.bool WI) b ?_;refine Bsg Lt ?_ _;have c:=Ba D ();clear D;have Z:=(Ba a2).drew.trans (a0.mono (Ba a2).size);cases WI with
     | true =>
      rw[Th rfl]at c;have J:Hid (Gp k.T j t ((k.lms.map Prod.fst).drop (q+1)) ((q+1:Nat):Int) (q:Int) l=r):=c;have c5:=QC a0 lH I;clear b I O Q V a1 c;go_wp2;go_roundw
      case rel=>exact⟨q+1,(q:Int),l,Ck,rfl,rfl,Mg,J,Z⟩
      case measure=>simp[intOf];omega
     | false =>
      rw[Pk Hd]at c;have J:Hid (Gp k.T j t ((k.lms.map Prod.fst).drop (q+1)) ((q+1:Nat):Int) f z=r):=c;clear c a1;clear b I O Q V;go_wp2;go_roundw
      case rel=>exact⟨q+1,f,z,Ck,rfl,rfl,Mg,J,Z⟩
      case measure=>simp[intOf];omega
  have b8:q=k.lms.length:=Ck;subst b8;have c:=Ba F;rw[List.drop_of_length_le Hd]at c;have b9:f=r:=c;clear c F;subst b9;go_wp2;go_ret;exact⟨rfl,G⟩
structure Dn.Small(E:Dn):Prop where
 cd:∀n,∀x∈(E.meth n).code,0<=x/\x<=255
 cl:∀n,(E.meth n).code.length<=1000
 hn:∀n,∀h∈(E.meth n).handlers,0<=h.target/\h.target<=1000
 rm:E.room<=30
 dp:E.depth<=12
structure Et(E:Dn)(S:Bo):Prop where
 ob:S.objs.length<=35
 wt:S.wait.length<=12
 rd:S.read<=E.ins.length
 nx:S.now.next<=2000
 nw:∀c∈S.wait,c.next<=2000
def Et.now{E:Dn}{S:Bo}(h:Et E S){c:Bi}(b:c.next<=2000):Et E (S.withNow c):=⟨h.ob,h.wt,h.rd,b,h.nw⟩
def Fv(v:Int)(c:Bi):(D8 v c).next=c.next:=by unfold D8;split<;>rfl
def J2(c:Bi):(Bv c).2.next=c.next:=by unfold Bv;split<;>rfl
def Xp(n v:Int)(c:Bi):(Ep n v c).next=c.next:=by
 unfold Ep
 split<;>first|rfl|(split<;>rfl)
def Bav:∀(k:Nat) (c:Bi),(Dt k c).2.next=c.next
 | 0,_=>rfl
 | k+1,c=>(Bav k _).trans (J2 c)
def Bbm:∀(l:TI) (i:Nat) (c:Bi),(Jy i l c).next=c.next
 | [],_,_=>rfl
 | _::r,i,_=>(Bbm r (i+1) _).trans (Xp _ _ _)
def Ta(m:Int)(b:TI):(Cn m b).next=0:=Bbm b 0 _
def Et.push{E:Dn}{S:Bo}(h:Et E S)(v:Int):Et E (S.push v):=h.now (by rw[Fv];exact h.nx)
def Et.popped{E:Dn}{S:Bo}(h:Et E S):Et E S.popped:=h.now (by rw[J2];exact h.nx)
def Et.pops{E:Dn}{S:Bo}(h:Et E S)(k:Nat):Et E (Fs k S):=h.now (by rw[Bav];exact h.nx)
def Et.fin{E:Dn}{S:Bo}(h:Et E S)(a b:Int):Et E (S.fin a b):=⟨h.ob,h.wt,h.rd,h.nx,h.nw⟩
def Et.objs{E:Dn}{S:Bo}(h:Et E S){A:List (Int×List Int)}(b:A.length<=35):Et E (S.withObjs A):=⟨b,h.wt,h.rd,h.nx,h.nw⟩
def Ban{z:TI}{c:Int}{u:Nat}:∀{l:List Rd.Hnd},(∀h∈l,0<=h.target/\h.target<=1000)->∀{t:Nat},Hi z c u l=some t->t<=1000
 | [],_,_,h=>by simp[Hi]at h
 | x::r,hl,t,h=>by
  unfold Hi at h
  split at h
  ·have:=hl x Hd;simp only[Option.some.injEq]at h;omega
  exact Ban (fun y b=>hl y (by simp[b])) h
def Baj{E:Dn}{S:Bo}(h:Et E S){c:Bi}(b:S.wait.getLast?=some c):c.next<=2000/\S.wait.dropLast.length<=12/\∀x∈S.wait.dropLast,x.next<=2000:=by
 refine⟨h.nw c (List.mem_of_getLast? b),?_,fun x e=>h.nw x (List.dropLast_subset _ e)⟩;have:=h.wt;rw[List.length_dropLast];omega
def Wh{E:Dn}(f:E.Small)(o e:Int):∀(k:Nat) {S:Bo},Et E S->Et E (Jd E o e k S)
 | 0,_,h=>h
 | k+1,S,h=>by
  unfold Jd;cases g:E.target e S.now with
  | some t=>exact h.now (by have:=Ban (f.hn _) (show Hi E.T e S.now.pos (E.meth S.now.meth).handlers=some t from g);show t<=2000;omega)
  | none =>
   cases i:S.wait.getLast? with
   | none=>exact h.fin _ _
   | some c =>
    obtain⟨a,b,d⟩:=Baj h i;exact Wh f o e k ⟨h.ob,b,h.rd,a,d⟩
def Ng{E:Dn}(b:E.Small)(c:Int){S:Bo}(h:Et E S):Et E (Fd E c S):=Wh b _ _ _ h
def Xt{E:Dn}(e:E.Small)(m:Int)(f:TI){S:Bo}(h:Et E S):Et E (Hj E m f S):=by
 unfold Hj
 split
 ·exact Ng e _ h
 rename_i g;have:=e.dp;refine⟨h.ob,by show (S.wait++[S.now]).length<=12;simp;omega,h.rd,by show (Cn m f).next<=2000;rw[Ta];omega,fun c b=>?_⟩
 rcases List.mem_append.1 b with b|b
 ·exact h.nw c b
 rw[List.mem_singleton.1 b];exact h.nx
def Bbu{E:Dn}(r:Int×Int)(v:Int){S:Bo}(h:Et E S):Et E (Kf r v S):=by
 unfold Kf;cases e:S.wait.getLast? with
 | none=>exact h.fin _ _
 | some c =>
  obtain⟨a,b,d⟩:=Baj h e;refine⟨h.ob,b,h.rd,?_,d⟩;show (if r.1=0 then c else D8 v c).next<=2000
  split
  ·exact a
  rw[Fv];exact a
def Bjz(op n:Int)(c:Bi):(Jk op n c).next=c.next:=by
 unfold Jk;by_cases b:op=0;·rw[Th b,Fv]
 rw[Pk b];by_cases e:op=1;·rw[Th e,Fv]
 rw[Pk e];by_cases f:op=2;·rw[Th f,Fv]
 rw[Pk f];by_cases g:op=3;·rw[Th g,Xp,J2]
 rw[Pk g];by_cases h:op=4;·rw[Th h,J2]
 rw[Pk h];by_cases i:op=5;·rw[Th i,Fv,Fv,J2]
 rw[Pk i];by_cases j:op=6;·rw[Th j,Fv,Fv,J2,J2]
 rw[Pk j]
def Bfk(op n:Int)(i:n<=255)(c:Bi)(b:c.next<=2000):(Gq op n c).next<=2000:=by
 have g:∀d:Bi,(Ki n.toNat d).next<=2000:=fun d=>by show n.toNat<=2000;omega
 unfold Gq;by_cases e:op=12
 ·rw[Th e]
  split
  ·exact g _
  rw[J2];exact b
 rw[Pk e];by_cases f:op=13
 ·rw[Th f]
  split
  ·exact g _
  rw[J2,J2];exact b
 rw[Pk f];by_cases h:op=14
 ·rw[Th h]
  split
  ·exact g _
  rw[J2];exact b
 rw[Pk h];exact g _
def Bl2(r:Int)(b:TI)(l:List (Int×List Int)):(P9 r b l).length=l.length:=by unfold P9;split<;>simp
def Bme(r s v:Int)(l:List (Int×List Int)):(Ra r s v l).length=l.length:=by unfold Ra;split<;>simp
def Bqx{E:Dn}(b:E.Small)(op n:Int)(B:n<=255){S:Bo}(h:Et E S):Et E (Ch E op n S):=by
 unfold Ch;by_cases c:op<=6;·rw[Th c];exact h.now (by rw[Bjz];exact h.nx)
 rw[Pk c];by_cases e:op<=10
 ·rw[Th e];unfold L6;cases Ia op S.popped.top S.top with
  | none=>exact Ng b _ h.popped.popped
  | some z=>exact h.popped.popped.push z
 rw[Pk e];by_cases f:op<=14;·rw[Th f];exact h.now (Bfk op n B _ h.nx)
 rw[Pk f];by_cases g:op=15
 ·rw[Th g];unfold L7
  split
  ·exact Ng b _ h
  rename_i C;have:=b.rm;exact(h.objs Fr).push _
 rw[Pk g];by_cases i:op=16;·rw[Th i];exact(h.pops _).popped.objs (by rw[Bl2];exact h.ob)
 rw[Pk i];by_cases j:op=17
 ·rw[Th j];unfold Ke
  split
  ·exact Ng b _ h.popped
  exact h.popped.push _
 rw[Pk j];by_cases l:op=18
 ·rw[Th l];unfold Kd
  split
  ·exact Ng b _ h.popped.popped
  exact h.popped.popped.objs (by rw[Bme];exact h.ob)
 rw[Pk l];by_cases m:op=19
 ·rw[Th m];unfold Oz
  split
  ·exact h.popped.push _
  split
  ·exact h.popped.push _
  exact Ng b _ h.popped
 rw[Pk m];by_cases p:op=20;·rw[Th p];exact Xt b _ _ (h.pops _)
 rw[Pk p];by_cases q:op=21
 ·rw[Th q];unfold Oy Nq
  split
  ·exact Ng b _ (h.pops _).popped
  exact Xt b _ _ (h.pops _).popped
 rw[Pk q];by_cases s:op=22
 ·rw[Th s];unfold Jq
  split
  ·exact Bbu _ _ h
  exact Bbu _ _ h.popped
 rw[Pk s];by_cases t:op=23
 ·rw[Th t];unfold Jc
  split
  ·exact Ng b _ h.popped
  exact Wh b _ _ _ h.popped
 rw[Pk t];by_cases v:op=24
 ·rw[Th v];unfold Po
  split
  ·rename_i C;exact Et.push (S:=⟨S.read+1,S.objs,S.now,S.wait,S.ended,S.out,S.status,S.value,S.steps⟩) ⟨h.ob,h.wt,by show S.read+1<=_;omega,h.nx,h.nw⟩ _
  exact h.push _
 rw[Pk v];by_cases A:op=25;·rw[Th A];exact⟨h.ob,h.wt,h.rd,by show (Bv S.now).2.next<=2000;rw[J2];exact h.nx,h.nw⟩
 rw[Pk A];exact h
def Bdd{E:Dn}(e:E.Small)(c:Bi):0<=(Fg E c).op/\(Fg E c).op<=25/\0<=(Fg E c).n/\(Fg E c).n<=255/\0<=(Fg E c).place/\(Fg E c).place<=1000:=by
 unfold Fg Cd.one
 split
 ·rename_i f;obtain⟨i,g,j⟩:=f;have b:∀q,0<=(E.meth c.meth).code.getD q 0/\(E.meth c.meth).code.getD q 0<=255:=fun q=>by
   rw[Vm];cases h:(E.meth c.meth).code[q]? with
   | none=>simp
   | some x=>exact e.cd _ x (Bs6 h)
  have l:=e.cl c.meth;refine⟨(b _).1,g,?_,?_,by show (0:Int)<=(c.next:Int);omega,by show (c.next:Int)<=1000;omega⟩
  ·show 0<=(if Cd.wd ((E.meth c.meth).code.getD c.next 0)=2 then (E.meth c.meth).code.getD (c.next+1) 0 else 0)
   split
   ·exact(b _).1
   exact Bu7 _
  show (if Cd.wd ((E.meth c.meth).code.getD c.next 0)=2 then (E.meth c.meth).code.getD (c.next+1) 0 else 0)<=255
  split
  ·exact(b _).2
  omega
 exact⟨by simp[Cd.orZero],by simp[Cd.orZero],by simp[Cd.orZero],by simp[Cd.orZero],by simp[Cd.orZero],by simp[Cd.orZero]⟩
def Bnp{E:Dn}(c:E.Small){S:Bo}(h:Et E S):Et E (Mh E S):=by
 obtain⟨_,_,_,_,a,b⟩:=Bdd c S.now;have e:=Cd.wd_bd (Fg E S.now).op;exact⟨h.ob,h.wt,h.rd,by show (Fg E S.now).place.toNat+Cd.wd (Fg E S.now).op<=2000;omega,h.nw⟩
def Bft{E:Dn}(b:E.Small){S:Bo}(h:Et E S):Et E (Gk E S):=Bqx b _ _ (Bdd b S.now).2.2.2.1 (Bnp b h)
def Bcq(E:Dn)(e:Int):Et E (Gb e):=⟨by simp[Gb],by simp[Gb],by simp[Gb],by show (Cn e []).next<=2000;rw[Ta];omega,fun c b=>by simp[Gb]at b⟩
def Bjx(k:Cw)(S:Bo)(v:Dd)(n:Int)(w:TW)(b:k.Ok)(h:Bw k S v w)(hw:S.wait.length<=1000):Calls prog 193 #[.q k.B 0,.i n] w fun e c=>e=.r (.tuple #[])/\∃v',Bw k (Oy k.E n S) v' c:=by
 have hm:=N8 k S v n w b h;have d9:=b.pm n;unfold Oy;generalize k.E.meth n=M at *;have a8:(Ih M.params.length S).length=M.params.length:=Sx _ _;have b5:Hid (∀w la lc,Bw k S v w->Calls prog 248 #[.q k.B 12,.s la M.params.length lc] w fun e c=>e=.r (.s (.p w.heap.size) M.params.length M.params.length)/\Rc k S v c w.heap.size M.params.length (Ih M.params.length S)/\Bw k (Fs M.params.length S) v c/\Gr k.B w c):=fun w la lc h=>Wp k S v la M.params.length lc w b h Ck;have eW:(Fs M.params.length S).popped.wait=S.wait:=rfl;generalize Ih M.params.length S=l at *;generalize Fs M.params.length S=S1 at *;have HP:Hid (∀w,Bw k S1 v w->Calls prog 240 #[.q k.B 12] w fun e c=>e=.r (.i S1.top)/\Bw k S1.popped v c/\Gr k.B w c):=fun w h =>
  (Is S1.now k.B 12 156 _ _ w rfl h.wf h.blk).mono fun e c ⟨he,t,hg⟩=>⟨he,h.now b hg (Fc h.wf) t,hg⟩
 generalize S1.top=x at *;generalize S1.popped=S2 at *;have hT:=fun w h=>Ht k S2 v 3 w b h Ck Ck;have hC:=fun w h=>Tc k S2 v x w h;have hN:=fun w h=>Bdk k S2 v (Ho x S2.objs) M.name w b h;have hO:=fun m xa xc w h hx=>Ba5 k S2 v m xa xc (x::l) w b h hx Fr (by rw[eW];exact hw);obtain⟨i0,hi,c9,d0,d1⟩:=Bsa Tryz.infoInt;unfold Nq;generalize Ho x S2.objs=cl at *;generalize k.E.nearest cl M.name=nr at *;have HT:=Bc hT;have HC:=Bc hC;have HN:=Bc hN;have HO:=Bc hO;have HA:=Bc h;have HM:=Bc hm;have f0:=h.blk.lt;clear h hm hT hC hN hO eW;by_cases a2:x=0
 ·rw[Th a2];subst a2;go_in;go_wp2_with fail;refine(Ba HM).mono ?_;rintro e A ⟨m,rfl,t,a3⟩;have G:=(Ba HA).gr b a3;have a4:=t.pl;have a5:=t.nm;obtain⟨I,m2,f,m4,g,J,K,L,N,O,Q,V,Y,Z,mf,mg,mh,mi⟩:=m;simp only at a4 a5;subst a4 a5;simp only[PM.val];have h2:=G.gr b (QN (O18 I M.name f M.params.length g J K L N O Q V Y Z mf mg mh mi));have D:=Be A (O18 I M.name f M.params.length g J K L N O Q V Y Z mf mg mh mi);have a6:A.heap.size≠k.B:=by have:=G.blk.lt;omega
  have q2:=(Bb D 2).trans (show _=some (.s f M.params.length g) from rfl);have H2:=Bc h2;clear HM t a3 G h2 HA;go_wp2;generalize A.alloc (O18 I M.name f M.params.length g J K L N O Q V Y Z mf mg mh mi)=F at *
  go_region_held3 (fun c=>c.C A.heap.size 2 (.s f M.params.length g))
   (first|exact q2|exact(Bb (a7.own (show F.drew.heap[_]?=_ from D) a6) 2).trans rfl)
   (first|(go_at_call 248;refine(Ba b5 _ _ _ ((Ba H2).drew b)).mono ?_;rintro e w7 ⟨rfl,b6,a9,a7⟩))
  clear q2 D;go_wp2_with fail;refine Qm (Ba HP _ a9) ?_;rintro w8 ⟨h8,b0⟩;go_wp2_with fail;refine Qm (Ba HT _ h8) ?_;rintro w9 ⟨v',h9⟩;go_wp2;refine tb (.tuple #[]) (by simp[results,results193,go_sem]) ?_;exact⟨rfl,v',h9⟩
 rw[Pk a2];have f1:(x==0)=false:=by simp[a2]
 clear a2 HT;go_in;go_wp2_with fail;refine(Ba HM).mono ?_;rintro e A ⟨m,rfl,t,a3⟩;have G:=(Ba HA).gr b a3;have a4:=t.pl;have a5:=t.nm;obtain⟨I,m2,f,m4,g,J,K,L,N,O,Q,V,Y,Z,mf,mg,mh,mi⟩:=m;simp only at a4 a5;subst a4 a5;simp only[PM.val];have h2:=G.gr b (QN (O18 I M.name f M.params.length g J K L N O Q V Y Z mf mg mh mi));have D:=Be A (O18 I M.name f M.params.length g J K L N O Q V Y Z mf mg mh mi);have a6:A.heap.size≠k.B:=by have:=G.blk.lt;omega
 have q2:=(Bb D 2).trans (show _=some (.s f M.params.length g) from rfl);have H2:=Bc h2;clear HM t a3 G h2 HA;go_wp2;generalize A.alloc (O18 I M.name f M.params.length g J K L N O Q V Y Z mf mg mh mi)=F at *
 go_region_held3 (fun c=>c.C A.heap.size 2 (.s f M.params.length g))
  (first|exact q2|exact(Bb (a7.own (show F.drew.heap[_]?=_ from D) a6) 2).trans rfl)
  (first|(go_at_call 248;refine(Ba b5 _ _ _ ((Ba H2).drew b)).mono ?_;rintro e w7 ⟨rfl,b6,a9,a7⟩))
 have b7:=a7.own (show F.drew.heap[_]?=_ from D) a6;clear q2 D;go_wp2_with fail;refine Qm (Ba HP _ a9) ?_;rintro w8 ⟨h8,b0⟩;have b8:=b0.own b7 a6;have q1:=(Bb b8 1).trans (show _=some (.i M.name) from rfl);have d2:=b6.gr b0;go_wp2_with fail;refine Qm (Ba HC _ h8) ?_;rintro w9 rfl;go_wp2_with fail;refine Qm (Ba HN _ h8) ?_;intro a0 b1;have b2:=h8.gr b b1;have b9:De a0 k.w0.heap.size (.s (.p F.heap.size) M.params.length M.params.length) l:=Dc d2.ints (Kp.of_below (e:=none) b1) Fm;have d3:=b2.rows.szs;have d4:=World.ownsRow_lit (base:=k.w0.heap.size) (e:=3) (size:=1) a0 #[.i x] 1 d3 Pf rfl;have c1:De (a0.alloc (O4 x)) k.w0.heap.size (.s (.p F.heap.size) M.params.length M.params.length) l:=Dc b9 (Kp.alloc (e:=none) a0 _) Fm;have d5:∀j u,(l.map (Value.int .i64))[j]?=some u->(a0.alloc (O4 x)).cell? ((⟨F.heap.size,0,none⟩:Addr).add j)=some u:=fun j u hu=>by
  obtain⟨_,⟨hv,_⟩|⟨g',f2,f3,hv,_,hg,_,_,_,d6⟩⟩:=c1
  ·simp at hv
  simp only[Value.slice.injEq,Option.some.injEq,Addr.mk.injEq,Br8]at hv;obtain⟨rfl,_,_⟩:=hv;rw[Addr.add_mid,Brz,Bb hg,<- hu,<- d6,Bs0,Th (by have:=(List.getElem?_eq_some_iff.1 hu).1;simp at this ⊢;exact this)];simp
 clear b7 b8 b1 h8 b9 c1;go_wp2_with (at_builtin;refine Btl _ rfl _ _ 26 rfl k.w0.heap.size 3 i0 _ 1 8 Bta hi c9 d0 d1 rfl Fm _ _ _ rfl d4 ⟨F.heap.size,0,none⟩ M.params.length M.params.length (l.map (Value.int .i64)) rfl ?c0 d5 ?c2 ?c3 ?c4 ?c5 ?_)
 case c0=>simp[a8]
 case c2=>intro u hu;simp at hu;obtain⟨z,_,rfl⟩:=hu;rfl
 case c3=>unfold maxLen;omega
 case c4=>omega
 case c5=>simp;omega
 intro v' b3 b4 a1 _ d7;obtain⟨xa,xc,rfl⟩:=Bh b4;have c6:Bl a0 b3:=⟨a1.os,a1.tape,a1.output,Br5 Hd a1.size,fun j hj=>(a1.block j Fr (by simp[Value.ownBlock];omega)).trans (Br2 _ _ _ hj)⟩;have c7:=b2.gr b c6;have c8:De b3 k.w0.heap.size (.s xa (x::l).length xc) (x::l):=by
  have e:(x::l).length=1+M.params.length:=by simp[a8];omega
  rw[e];unfold De;rw[e];simpa using b4
 have hO:=Ba HO nr xa xc b3 c7 c8;have e:(x::l).length=1+M.params.length:=by simp[a8];omega
 rw[e]at hO;clear b4 a1 d7 c6 c7 c8 e b2;go_wp2_with fail;refine Qm hO ?_;rintro f4 ⟨v',d8⟩;go_wp2;go_end0;exact⟨rfl,v',d8⟩
def N9(k:Cw)(S:Bo)(v:Dd)(p op n:Int)(w:TW)(b:k.Ok)(h:Bw k S v w)(l:15<=op/\op<=19)(g:0<=n/\n<=255)(j:S.objs.length<=1000):Calls prog 191 #[.q k.B 0,.agg #[.i p,.i op,.i n]] w fun e m=>e=.r (.tuple #[])/\∃f,Bw k (Ch k.E op n S) f m:=by
 rcases(show op=15\/op=16\/op=17\/op=18\/op=19 by omega) with rfl|rfl|rfl|rfl|rfl
 have c:=Be6 k S v n _ b (h.gr b (QN (O15 p 15 n))) j;rw[show Ch k.E 15 n S=L7 k.E n S from rfl]
 rotate_left
 have c:=Ay k S v n _ b (h.gr b (QN (O15 p 16 n)));rw[show Ch k.E 16 n S=Lq k.E n S from rfl]
 rotate_left
 have c:=Bca k S v n _ b (h.gr b (QN (O15 p 17 n))) ⟨g.1,Ck⟩;rw[show Ch k.E 17 n S=Ke k.E n S from rfl]
 rotate_left
 have c:=Bb5 k S v n _ b (h.gr b (QN (O15 p 18 n))) ⟨g.1,Ck⟩;rw[show Ch k.E 18 n S=Kd k.E n S from rfl]
 rotate_left
 have c:=Bj4 k S v n _ b (h.gr b (QN (O15 p 19 n)));rw[show Ch k.E 19 n S=Oz k.E n S from rfl]
 rotate_left
 all_goals
  clear h l j;go_in;go_wp2_with fail;refine Qm c ?_;rintro t ⟨f,s⟩;go_wp2;go_end0;exact⟨rfl,f,s⟩
def Bj8(k:Cw)(S:Bo)(v:Dd)(p op n:Int)(w:TW)(f:k.Ok)(h:Bw k S v w)(g:0<=op/\op<=6)(j:0<=n/\n<=255):Calls prog 188 #[.q k.B 12,.agg #[.i p,.i op,.i n]] w fun e b=>e=.r (.tuple #[])/\Bw k (S.withNow (Jk op n S.now)) v b/\Gr k.B w b :=
 (Bj2 S.now p op n k.B 12 156 _ _ w rfl h.wf h.blk g j).mono fun _ _ ⟨l,m,c⟩=>⟨l,h.now f c (Bov h.wf op n) m,c⟩
def Bfa(k:Cw)(S:Bo)(v:Dd)(p op n:Int)(w:TW)(f:k.Ok)(h:Bw k S v w)(g:11<=op/\op<=14)(j:0<=n):Calls prog 190 #[.q k.B 12,.agg #[.i p,.i op,.i n]] w fun e b=>e=.r (.tuple #[])/\Bw k (S.withNow (Gq op n S.now)) v b/\Gr k.B w b :=
 (Be7 S.now p op n k.B 12 156 _ _ w rfl h.wf h.blk g j).mono fun _ _ ⟨l,m,c⟩=>⟨l,h.now f c (Bk5 h.wf op n) m,c⟩
def Bnu{E:Dn}{op n:Int}{S:Bo}(h:op<=6):Ch E op n S=S.withNow (Jk op n S.now):=by unfold Ch;rw[Th h]
def Bib{E:Dn}{op n:Int}{S:Bo}(h:7<=op/\op<=10):Ch E op n S=L6 E op S:=by unfold Ch;rw[Pk Ck,Th h.2]
def Bic{E:Dn}{op n:Int}{S:Bo}(h:11<=op/\op<=14):Ch E op n S=S.withNow (Gq op n S.now):=by unfold Ch;rw[Pk Ck,Pk Ck,Th h.2]
structure Ar(S:Bo):Prop where
 ob:S.objs.length<=1000
 wt:S.wait.length<=1000
 rd:S.read<=100000
 ou:S.out.length<=100000
def Bmv(k:Cw)(S:Bo)(v:Dd)(p op n:Int)(w:TW)(l:k.Ok)(h:Bw k S v w)(m:0<=op/\op<=14)(J:0<=n/\n<=255):Calls prog 133 #[.q k.B 0,.agg #[.i p,.i op,.i n]] w fun e b=>e=.r (.tuple #[])/\∃D,Bw k (Ch k.E op n S) D b:=by
 have K:=h.gr l (QN (O15 p op n));have c:=Be w (O15 p op n);have L:=(Bb c 0).trans (show _=some (.i p) from rfl);have N:=(Bb c 1).trans (show _=some (.i op) from rfl);have O:=(Bb c 2).trans (show _=some (.i n) from rfl);have s:w.heap.size≠k.B:=by have:=h.blk.lt;omega
 have F:=Bc K;clear h K;by_cases t:op<=6
 ·rw[Bnu t];have f:=fun w h=>Bj8 k S v p op n w l h ⟨m.1,t⟩ J;have z:=Bc f;clear f;have G:(op==0)=true\/(op==0)=false/\((op==1)=true\/(op==1)=false/\((op==2)=true\/(op==2)=false/\((op==3)=true\/(op==3)=false/\((op==4)=true\/(op==4)=false/\((op==5)=true\/(op==5)=false/\((op==6)=true)))))):=Fr;clear t m;rcases G with Q|⟨Q,V|⟨V,Y|⟨Y,Z|⟨Z,b4|⟨b4,b5|⟨b5,b6⟩⟩⟩⟩⟩⟩
  all_goals
   go_in;go_wp2;generalize w.alloc (O15 p op n)=g at *
   go_region_held3 (fun b=>b.C w.heap.size 0 (.i p)/\b.C w.heap.size 1 (.i op)/\b.C w.heap.size 2 (.i n))
    (first|exact⟨L,N,O⟩|exact⟨(Bb (j.own (show g.drew.heap[_]?=_ from c) s) 0).trans rfl,(Bb (j.own (show g.drew.heap[_]?=_ from c) s) 1).trans rfl,(Bb (j.own (show g.drew.heap[_]?=_ from c) s) 2).trans rfl⟩)
    (first|(go_at_call 188;refine(Ba z _ ((Ba F).drew l)).mono ?_;rintro e w7 ⟨rfl,A,j⟩))
   go_wp2;go_end0;exact⟨rfl,v,A⟩
 by_cases I:op<=10
 ·rw[Bib ⟨Ck,I⟩];have f:=fun w h=>Be3 k S v op w l h;have z:=Bc f;clear f;have a0:op=7\/op=8\/op=9\/op=10:=Ck;clear t m I;rcases a0 with rfl|rfl|rfl|rfl
  all_goals
   go_in;go_wp2_with fail;refine Qm (Ba z _ (Ba F)) ?_;rintro w7 ⟨D,A⟩;go_wp2;go_end0;exact⟨rfl,D,A⟩
 rw[Bic ⟨Ck,m.2⟩];have f:=fun w h=>Bfa k S v p op n w l h ⟨Ck,m.2⟩ J.1;have z:=Bc f;clear f;obtain⟨Q,V,Y,Z,b4,b5,b6,b7,b8,b9,a4⟩:(op==0)=false/\(op==1)=false/\(op==2)=false/\(op==3)=false/\(op==4)=false/\(op==5)=false/\(op==6)=false/\(op==7)=false/\(op==8)=false/\(op==9)=false/\(op==10)=false:=Fr;have G:(op==11)=true\/(op==11)=false/\((op==12)=true\/(op==12)=false/\((op==13)=true\/(op==13)=false/\((op==14)=true))):=Fr;clear t m I;rcases G with a1|⟨a1,a2|⟨a2,a3|⟨a3,a5⟩⟩⟩
 all_goals
  go_in;go_wp2;generalize w.alloc (O15 p op n)=g at *
  go_region_held3 (fun b=>b.C w.heap.size 0 (.i p)/\b.C w.heap.size 1 (.i op)/\b.C w.heap.size 2 (.i n))
   (first|exact⟨L,N,O⟩|exact⟨(Bb (j.own (show g.drew.heap[_]?=_ from c) s) 0).trans rfl,(Bb (j.own (show g.drew.heap[_]?=_ from c) s) 1).trans rfl,(Bb (j.own (show g.drew.heap[_]?=_ from c) s) 2).trans rfl⟩)
   (first|(go_at_call 190;refine(Ba z _ ((Ba F).drew l)).mono ?_;rintro e w7 ⟨rfl,A,j⟩))
  go_wp2;go_end0;exact⟨rfl,v,A⟩
def Bo0(k:Cw)(S:Bo)(v:Dd)(w:TW)(c:k.Ok)(h:Bw k S v w)(f:S.read<=100000):Calls prog 196 #[.q k.B 0] w fun e g=>e=.r (.tuple #[])/\∃i,Bw k (Po k.E S) i g :=
 (Boy k S v w c h f).mono fun _ _ ⟨a,b⟩=>⟨a,v,b⟩
def Bmu(k:Cw)(S:Bo)(v:Dd)(p op n:Int)(w:TW)(b:k.Ok)(h:Bw k S v w)(j:15<=op/\op<=25)(f:0<=n/\n<=255)(hF:Ar S):Calls prog 133 #[.q k.B 0,.agg #[.i p,.i op,.i n]] w fun e l=>e=.r (.tuple #[])/\∃g,Bw k (Ch k.E op n S) g l:=by
 rcases(show op=15\/op=16\/op=17\/op=18\/op=19\/op=20\/op=21\/op=22\/op=23\/op=24\/op=25 by omega) with rfl|rfl|rfl|rfl|rfl|rfl|rfl|rfl|rfl|rfl|rfl
 have c:=N9 k S v p 15 n _ b (h.gr b (QN (O15 p 15 n))) Ck f hF.ob
 rotate_left
 have c:=N9 k S v p 16 n _ b (h.gr b (QN (O15 p 16 n))) Ck f hF.ob
 rotate_left
 have c:=N9 k S v p 17 n _ b (h.gr b (QN (O15 p 17 n))) Ck f hF.ob
 rotate_left
 have c:=N9 k S v p 18 n _ b (h.gr b (QN (O15 p 18 n))) Ck f hF.ob
 rotate_left
 have c:=N9 k S v p 19 n _ b (h.gr b (QN (O15 p 19 n))) Ck f hF.ob
 rotate_left
 have c:=Bj5 k S v n _ b (h.gr b (QN (O15 p 20 n))) hF.wt;rw[show Ch k.E 20 n S=Su k.E n S from rfl]
 rotate_left
 have c:=Bjx k S v n _ b (h.gr b (QN (O15 p 21 n))) hF.wt;rw[show Ch k.E 21 n S=Oy k.E n S from rfl]
 rotate_left
 have c:=Bb9 k S v _ b (h.gr b (QN (O15 p 22 n)));rw[show Ch k.E 22 n S=Jq k.E S from rfl]
 rotate_left
 have c:=Zv k S v _ b (h.gr b (QN (O15 p 23 n)));rw[show Ch k.E 23 n S=Jc k.E S from rfl]
 rotate_left
 have c:=Bo0 k S v _ b (h.gr b (QN (O15 p 24 n))) hF.rd;rw[show Ch k.E 24 n S=Po k.E S from rfl]
 rotate_left
 have c:=Bmq k S v _ b (h.gr b (QN (O15 p 25 n))) hF.ou;rw[show Ch k.E 25 n S=Vd S from rfl]
 rotate_left
 all_goals
  clear h j hF;go_in;go_wp2_with fail;refine Qm c ?_;rintro s ⟨g,m⟩;go_wp2;go_end0;exact⟨rfl,g,m⟩
def Boz(k:Cw)(S:Bo)(v:Dd)(p op n:Int)(w:TW)(b:k.Ok)(h:Bw k S v w)(c:0<=op/\op<=25)(f:0<=n/\n<=255)(hF:Ar S):Calls prog 133 #[.q k.B 0,.agg #[.i p,.i op,.i n]] w fun e g=>e=.r (.tuple #[])/\∃j,Bw k (Ch k.E op n S) j g:=by
 by_cases l:op<=14;·exact Bmv k S v p op n w b h ⟨c.1,l⟩ f
 exact Bmu k S v p op n w b h ⟨Ck,c.2⟩ f hF
def Cw.Ok.cm{k:Cw}(c:k.Ok)(n:Int):(k.E.meth n).code.length<=1000/\∀x∈(k.E.meth n).code,0<=x/\x<=255:=by
 unfold Dn.meth
 split
 ·simp[Ef]
 split
 ·simp[Ef]
 rename_i f g;have h:k.E.ms.length=k.lms.length:=by simp[Cw.E]
 have b:n.toNat<k.lms.length:=Ck;have e:k.E.ms.getD n.toNat Ef=k.lms[n.toNat].1:=by
  rw[Vm];simp[Cw.E,b]
 rw[e];exact c.cd _ (Brn b)
def Bhh(c:Bi)(l:TI)(I:TA)(J Z B o:Nat)(t:TypeId)(C K:TV)(w:TW)(j:C.length=o)(m:Dz c)(h:Mid w B t C c.cells K)(hl:l.length<=1000)(h0:∀x∈l,0<=x)(hi:De w Z (.s I l.length J) l)(hx:c.next<=2000):Calls prog 132 #[.q B o,.s I l.length J] w fun e p=>e=.r (.agg #[.i (Cd.orZero (Cd.one l c.next)).place,.i (Cd.orZero (Cd.one l c.next)).op,.i (Cd.orZero (Cd.one l c.next)).n])/\Mid p B t C (⟨c.meth,c.next,(Cd.orZero (Cd.one l c.next)).place.toNat+Cd.wd (Cd.orZero (Cd.one l c.next)).op,c.lo,c.st,c.h⟩:Bi).cells K/\Gr B w p:=by
 have hR:=fun p (hb:Bl w p)=>Bef l I J Z c.next p hl Ck h0 (hi.kp (Kp.of_below (e:=none) hb) Fm)
 generalize f:Cd.one l c.next=r at *
 have a7:∃q:Nat,(Cd.orZero r).place=(q:Int)/\q<=100000:=by
  cases r with
  | none=>exact⟨0,rfl,Ck⟩
  | some x =>
   unfold Cd.one at f
   split at f
   ·simp only[Option.some.injEq]at f;subst f;exact⟨c.next,rfl,Ck⟩
   cases f
 obtain⟨q,hq,a8⟩:=a7;generalize Cd.orZero r=a9 at *;obtain⟨pl,op,n⟩:=a9;simp only at hq hR ⊢;subst hq;rw[Brx];have hN:=fun w=>W1 q op n w a8;have b4:=h.lt;clear f hi h0;go_in;have s2:=((h.alloc (O15 0 0 0)).sees j m).n;go_wp2_with fail;refine Qm (hR _ (QN _)) ?_;intro v D;have F:=(h.alloc (O15 0 0 0)).below D;have L:=stay D (Be w (O15 0 0 0));have b5:=Sp L;obtain⟨N,z1,z2,O,Q,V,g⟩:=F.sees j m;have f1:=g (o+1);have f2:=g (o+2);have b6:=F.lt;have a0:Gr B w v:=Gr.of_below ((Gr.refl _ _).alloc _) D;clear N O Q V g s2;go_wp2_with fail;refine Qm (hN _) ?_;intro w2 z;have a1:=F.setP j c.next
 have b0:Dz ⟨c.meth,c.next,c.next,c.lo,c.st,c.h⟩:=⟨m.lo,m.st,m.h⟩
 have b1:(v.setCell (.a B (o+1)) (.i (c.next:Int))).heap.size=v.heap.size:=by simp[World.setCell]
 have G:=(a1.alloc (O15 (q:Int) op n)).below z;have O0:=Be (v.setCell (.a B (o+1)) (.i (c.next:Int))) (O15 (q:Int) op n)
 rw[b1]at O0;have O2:=stay z O0;have a2:(v.setCell (.a B (o+1)) (.i (c.next:Int))).heap[w.heap.size]?=_:=(Brk _ _ _ _ (by simpa using (show w.heap.size≠B by omega))).trans L
 have A:=stay z (Bg a2 (O15 (q:Int) op n));have b7:=Sp O2;have b8:=Sp A;have u0:=(Bb O2 0).trans (show _=some (.i (q:Int)) from rfl);have u1:=(Bb O2 1).trans (show _=some (.i op) from rfl);have u2:=(Bb O2 2).trans (show _=some (.i n) from rfl);have v0:=(Bb A 0).trans (show _=some (.i 0) from rfl);have v1:=(Bb A 1).trans (show _=some (.i 0) from rfl);have v2:=(Bb A 2).trans (show _=some (.i 0) from rfl);obtain⟨g0,g1,g2⟩:=fr3 A;obtain⟨N,y1,y2,O,Q,V,g⟩:=G.sees j b0;have b9:=g (o+2);have c0:=G.lt;have a3:=G.setN j (q+Cd.wd op);have a4:Gr B w w2:=Gr.of_below ((a0.setB _).alloc _) z;have Y:w.heap.size≠B:=Ck;have a5:∀u0 u1 u2,Mid (((((w2.setCell (.a B (o+2)) (.i ((q+Cd.wd op:Nat):Int))).setCell (.a w.heap.size 0) u0).setCell (.a w.heap.size 1) u1)).setCell (.a w.heap.size 2) u2) B t C (⟨c.meth,c.next,q+Cd.wd op,c.lo,c.st,c.h⟩:Bi).cells K:=fun a b d=>by
  unfold Mid;rw[Brk _ _ _ _ (by simpa using Btj Y),Brk _ _ _ _ (by simpa using Btj Y),Brk _ _ _ _ (by simpa using Btj Y)];exact a3
 have b2:=Bc a5;have b3:=Bc a4;clear a1 F G L a2 O0 D z N z1 z2 O Q V g y1 a0 a3 a5 a4 h;go_wp2;refine tb (.agg #[.i (q:Int),.i op,.i n]) (by simp[results,results132,go_sem,v0,v1,v2]) ?_;have a6:=Ba b2 (.i (q:Int)) (.i op) (.i n);rw[Bvi]at a6;exact⟨rfl,a6,((((Ba b3).setB _).set (.inl (Bru _)) _).set (.inl (Bru _)) _).set (.inl (Bru _)) _⟩
end Go.Proofs.YtpcgnjolfahacaaGreat
