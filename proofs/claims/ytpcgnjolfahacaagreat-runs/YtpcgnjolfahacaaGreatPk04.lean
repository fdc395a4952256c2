/- the proof's parts -/
import Derived.Test.YtpcgnjolfahacaaGreatPk03
set_option maxRecDepth 100000
set_option maxHeartbeats 40000000
set_option linter.unusedVariables false
set_option linter.unusedSimpArgs false
set_option linter.defProp false
namespace Go.Proofs.YtpcgnjolfahacaaGreat
open Go.RowKit Go.Proofs.Tryz
def Bhv{α β:Type}{f:α->Option β}:∀{l:List α},(l.filterMap f).Nodup->∀{i j:Nat}{a b:α}{g:β},i≠j->l[i]?=some a->l[j]?=some b->f a=some g->f b≠some g
 | [],_,i,_,_,_,_,_,h,_,_=>by simp at h
 | x::r,hn,i,j,a,b,g,hij,hi,hj,ha=>by
  intro m;have s:(r.filterMap f).Nodup:=by
   cases e:f x with
   | none=>rw[Bt1 e]at hn;exact hn
   | some y=>rw[Bte e]at hn;exact(List.nodup_cons.1 hn).2
  have p:∀{q:Nat}{c:α},f x=some g->r[q]?=some c->f c=some g->False:=fun {q c} e t v=>by
   rw[Bte e]at hn;exact(List.nodup_cons.1 hn).1 (List.mem_filterMap.2 ⟨c,Bs6 t,v⟩)
  cases i with
  | zero =>
   cases j with
   | zero=>exact hij rfl
   | succ j =>
    simp only[Btt,Option.some.injEq]at hi;subst hi;exact p ha (by simpa using hj) m
  | succ i =>
   cases j with
   | zero =>
    simp only[Btt,Option.some.injEq]at hj;subst hj;exact p m (by simpa using hi) ha
   | succ j=>exact Bhv s (i:=i) (j:=j) Ck (by simpa using hi) (by simpa using hj) ha m
theorem Dq.obj{k:Cw}{A:List (Int×List Int)}{l:List Bi}{z:List Int}{v:Dd}{w:World}(h:Dq k A l z v w){u:Nat}(m:u<A.length):∃g,v.oa=some ⟨g,0,none⟩/\g<w.heap.size/\w.cell? ⟨g,u*2,none⟩=some (.int .i64 (A.getD u (0,[])).1)/\w.cell? ⟨g,u*2+1,none⟩=some (v.ov.getD u (.slice none 0 0))/\∀j,w.frozen? ⟨g,j,none⟩=false:=by
 obtain⟨g,e,p,_,f⟩:=Cf h.objs Ck;obtain⟨a,b⟩:=Ba3 A v.ov h.ovl u m;have s:=Zt A v.ov h.ovl;refine⟨g,e,p,by rw[f _ Ck];exact a,by rw[f _ Ck];exact b,?_⟩;intro j;obtain⟨_,⟨c,t⟩|⟨B,C,D,c,_,q,_⟩⟩:=h.objs
 ·omega
 rw[e]at c;simp only[Value.slice.injEq,Option.some.injEq,Addr.mk.injEq,Br8]at c;obtain⟨rfl,_⟩:=c;exact Bk q j
def Dq.flds_ne{k:Cw}{A:List (Int×List Int)}{b:List Bi}{z:TI}{v:Dd}{w:TW}(h:Dq k A b z v w){i j:Nat}{t:Nat}(c:i<A.length)(f:j<A.length)(m:i≠j) (l:(v.ov.getD i (.s none 0 0)).ownBlock=some t):(v.ov.getD j (.s none 0 0)).ownBlock≠some t:=by
 have p:=h.ovl;have e:∀q,q<A.length->(Value.slice v.xa z.length v.xc::v.ov)[q+1]?=some (v.ov.getD q (.s none 0 0)):=fun q B=>by
  rw[Bsn,Vm,Brl Ck];rfl
 exact Bhv h.nd (i:=i+1) (j:=j+1) Ck (e i c) (e j f) l
def Dq.out_ne{k:Cw}{A:List (Int×List Int)}{c:List Bi}{z:TI}{v:Dd}{w:TW}(h:Dq k A c z v w){i:Nat}{b:Nat}(l:i<A.length) (f:(v.ov.getD i (.s none 0 0)).ownBlock=some b):(Value.slice v.xa z.length v.xc).ownBlock≠some b:=by
 have m:=h.ovl;have e:(Value.slice v.xa z.length v.xc::v.ov)[i+1]?=some (v.ov.getD i (.s none 0 0)):=by
  rw[Bsn,Vm,Brl Ck];rfl
 exact Bhv h.nd (i:=i+1) (j:=0) Ck e rfl f
def Yu(k:Cw)(S:Bo)(v:Dd)(r:Int)(w:TW)(h:Bw k S v w):Calls prog 284 #[.q k.B 10,.i r] w fun e c=>e=.r (.bool (Lr r S.objs))/\c=w:=by
 have g:=h.sees.c10;unfold Lr;by_cases f:1<=r
 ·by_cases b:r<=(S.objs.length:Int);·clear h;go_in;go_wp2;go_ret;exact⟨by simp[f,b],rfl⟩
  clear h;go_in;go_wp2;go_ret;exact⟨by simp[b],rfl⟩
 clear h;go_in;go_wp2;go_ret;exact⟨Fr,rfl⟩
def Vt{r:Int}{A:List (Int×List Int)}:Lr r A=true<->∃i:Nat,i<A.length/\r=(i:Int)+1:=by
 unfold Lr;rw[Bsq,Bsv,Bsv]
 constructor
 ·intro ⟨a,b⟩;exact⟨(r-1).toNat,Ck,Ck⟩
 rintro ⟨i,a,rfl⟩;omega
def Tc(k:Cw)(S:Bo)(v:Dd)(r:Int)(w:TW)(h:Bw k S v w):Calls prog 250 #[.q k.B 10,.i r] w fun e j=>e=.r (.i (Ho r S.objs))/\j=w:=by
 have c:=Yu k S v r w h;have l:=h.sees.c10;unfold Ho;cases b:Lr r S.objs with
 | false =>
  rw[b]at c;rw[Pk Hd];clear h b;go_in;go_wp2_with fail;refine Qm c ?_;rintro m rfl;go_wp2;go_ret;exact⟨rfl,rfl⟩
 | true =>
  rw[b]at c;rw[Th rfl];obtain⟨i,p,rfl⟩:=Vt.1 b;unfold K6;have e:((i:Int)+1-1).toNat=i:=Ck;rw[e];obtain⟨g,f,A,C,s,t⟩:=h.rows.obj p;rw[f]at l;have D:(i:Int)<(S.objs.length:Int):=Ck;have F:S.objs.length<=9223372036854775807:=by
   obtain⟨_,⟨_,G⟩|⟨_,I,_,_,_,_,J,z,_⟩⟩:=h.rows.objs
   ·omega
   unfold maxLen at z;omega
  clear h b e t s f;generalize (S.objs.getD i (0,[])).1=K at *;go_in;go_wp2_with fail;refine Qm c ?_;rintro m rfl;go_wp2;go_ret;exact⟨rfl,rfl⟩
def Wc(k:Cw)(S:Bo)(v:Dd)(r s:Int)(w:TW)(h:Bw k S v w):Calls prog 302 #[.q k.B 10,.i r,.i s] w fun e t=>e=.r (.bool (Iq r s S.objs))/\t=w:=by
 have c:=Yu k S v r w h;have z:=h.sees.c10;unfold Iq;cases b:Lr r S.objs with
 | false =>
  rw[b]at c;rw[Bt6];clear h b;go_in;go_wp2_with fail;refine Qm c ?_;rintro f rfl;go_wp2;go_ret;exact⟨rfl,rfl⟩
 | true =>
  rw[b]at c;rw[Bts];by_cases j:0<=s
  ·obtain⟨i,l,rfl⟩:=Vt.1 b;unfold K6;have e:((i:Int)+1-1).toNat=i:=Ck;rw[e,Bt5 j,Bts];obtain⟨g,m,G,A,C,D⟩:=h.rows.obj l;rw[m]at z;have I:(i:Int)<(S.objs.length:Int):=Ck;have J:S.objs.length<=9223372036854775807:=by
    obtain⟨_,⟨_,K⟩|⟨_,L,_,_,_,_,N,F,_⟩⟩:=h.rows.objs
    ·omega
    unfold maxLen at F;omega
   obtain⟨O,Q,p⟩:=Bh (h.rows.flds i l);rw[p]at C;clear h b e D A m p;generalize (S.objs.getD i (0,[])).2=V at *;go_in;go_wp2_with fail;refine Qm c ?_;rintro f rfl;go_wp2;go_ret;exact⟨rfl,rfl⟩
  rw[Buk j,Bt6];clear h b;go_in;go_wp2_with fail;refine Qm c ?_;rintro f rfl;go_wp2;go_ret;exact⟨rfl,rfl⟩
def Wv{r B:Int}{A:List (Int×List Int)}:Iq r B A=true<->∃i j:Nat,i<A.length/\r=(i:Int)+1/\B=(j:Int)/\j<(A.getD i (0,[])).2.length:=by
 unfold Iq;rw[Bsq,Vt,Bsq,Bsv,Bsv]
 constructor
 ·rintro ⟨⟨i,b,rfl⟩,f,c⟩;have e:((i:Int)+1-1).toNat=i:=Ck;unfold K6 at c;rw[e]at c;exact⟨i,B.toNat,b,rfl,Ck,Ck⟩
 rintro ⟨i,j,b,rfl,rfl,g⟩;have e:((i:Int)+1-1).toNat=i:=Ck;refine⟨⟨i,b,rfl⟩,Ck,?_⟩;unfold K6;rw[e];omega
def Dq.ol{k:Cw}{A:List (Int×List Int)}{b:List Bi}{z:TI}{v:Dd}{w:TW}(h:Dq k A b z v w):A.length<=9223372036854775807:=by
 obtain⟨_,⟨_,e⟩|⟨_,f,_,_,_,_,g,c,_⟩⟩:=h.objs
 ·omega
 unfold maxLen at c;omega
def Bde(i:Nat)(l:List (Int×List Int)):K6 ((i:Int)+1) l=l.getD i (0,[]):=by
 unfold K6;rw[show ((i:Int)+1-1).toNat=i by omega]
def Bmt(k:Cw)(S:Bo)(v:Dd)(r s:Int)(w:TW)(h:Bw k S v w):Calls prog 282 #[.q k.B 10,.i r,.i s] w fun e A=>e=.r (.i (Ss r s S.objs))/\A=w:=by
 have c:=Wc k S v r s w h;have C:=h.sees.c10;unfold Ss;cases b:Iq r s S.objs with
 | false =>
  rw[b]at c;rw[Pk Hd];clear h b;go_in;go_wp2_with fail;refine Qm c ?_;rintro D rfl;go_wp2;go_ret;exact⟨rfl,rfl⟩
 | true =>
  rw[b]at c;rw[Th rfl];obtain⟨i,j,l,rfl,rfl,m⟩:=Wv.1 b;rw[Bde,Brx];obtain⟨g,p,L,F,G,I⟩:=h.rows.obj l;rw[p]at C;have N:(i:Int)<(S.objs.length:Int):=Ck;have O:=h.rows.ol;have f:=h.rows.flds i l;obtain⟨Q,V,t⟩:=Bh f;rw[t]at G f;obtain⟨Y,J,Z,z⟩:=Wt f Ck;have z0:=z j m;have e:(S.objs.getD i (0,[])).2.getD j 0=(S.objs.getD i (0,[])).2[j]:=by rw[Vm,Brl m];rfl
  rw[e];have a0:(j:Int)<((S.objs.getD i (0,[])).2.length:Int):=Ck;clear h b I F p t f z e;generalize (S.objs.getD i (0,[])).2=K at *;generalize K[j]=x at *;subst J;go_in;go_wp2_with fail;refine Qm c ?_;rintro D rfl;go_wp2;go_ret;exact⟨rfl,rfl⟩
def Bdt{w:TW}{u b n O j:Nat}{z:TI}(h:De w u (.s (.p b) n O) z)(B:j<z.length)(x:Int):De (w.setCell (.a b j) (.i x)) u (.s (.p b) n O) (z.set j x)/\w.frozen? (.a b j)=false:=by
 obtain⟨C,⟨e,D⟩|⟨F,G,I,e,q,f,t,v,A,m⟩⟩:=h
 ·simp at e
 simp only[Value.slice.injEq,Option.some.injEq,Addr.mk.injEq,Br8]at e;obtain⟨rfl,rfl,rfl⟩:=e;refine⟨⟨Hd,.inr ⟨b,O,_,Hd,q,Bt f _,by simpa using t,v,by simpa using A,?_⟩⟩,Bk f j⟩;simp only[Bw7]at m ⊢;rw[Bsl,But,<- m,Bux,Bvy]
def Dq.putF{k:Cw}{A:List (Int×List Int)}{Q:List Bi}{z:TI}{v:Dd}{w:TW}(h:Dq k A Q z v w)(ok:k.Ok){u b t n c:Nat}(m:u<A.length)(hj:b<(A.getD u (0,[])).2.length) (C:v.ov.getD u (.s none 0 0)=.s (.p t) n c)(x:Int):Dq k (A.set u ((A.getD u (0,[])).1,(A.getD u (0,[])).2.set b x)) Q z v (w.setCell (.a t b) (.i x)):=by
 have B:=h.flds u m;have D:(v.ov.getD u (.s none 0 0)).ownBlock=some t:=by rw[C];rfl
 have a2:=(B.lt t D).1;have a3:=(B.lt t D).2;have K:∃V:TV,w.heap[t]?=some (.cells V.toArray 3 (0,0)):=by
  rw[C]at B;obtain⟨_,⟨F,_⟩|⟨g',a4,a0,F,_,hg,_⟩⟩:=B
  ·simp at F
  simp only[Value.slice.injEq,Option.some.injEq,Addr.mk.injEq,Br8]at F;obtain⟨rfl,_⟩:=F;exact⟨a0.toList,by simpa using hg⟩
 obtain⟨V,K⟩:=K;have Y:∀q,q≠t->(w.setCell (.a t b) (.i x)).heap[q]?=w.heap[q]?:=fun q l=>Brk _ _ _ _ (by simpa using l);have G:∀{f e I n:Nat}{g:TX}{J:TV},w.ownsRow f e I g n J->g.ownBlock≠some t->(w.setCell (.a t b) (.i x)).ownsRow f e I g n J:=fun L N=>Fz L (fun q l=>Y q (fun e=>N (e▸l)));have Z:∀{f e I n:Nat}{g:TX}{J:TV},w.ownsRow f e I g n J->e≠3->g.ownBlock≠some t:=fun L he N=>Fl L K he t N rfl;have a1:(A.set u ((A.getD u (0,[])).1,(A.getD u (0,[])).2.set b x)).map Prod.fst=A.map Prod.fst:=by
  rw[But];apply Bv1;intro q;rw[Bup];by_cases e:u=q;·subst e;rw[Th rfl,Th (by simpa using m),Bsf,Vm,Brl m];rfl
  rw[Pk e]
 have hB:=ok.Bs;refine⟨?_,by rw[Bsl];exact h.ovl,by rw[Bsl];exact h.obk,fun q l=>?_,G h.wait (Z h.wait Fm),h.wwf,G h.out (h.out_ne m D),h.nd,fun q h1 h2 h3=>?_,?_,?_⟩
 ·rw[Bsl,Xv _ _ _ a1];exact G h.objs (Z h.objs Fm)
 ·rw[Bsl]at l;by_cases e:q=u
  ·subst e;have O:(A.set q ((A.getD q (0,[])).1,(A.getD q (0,[])).2.set b x)).getD q (0,[])=((A.getD q (0,[])).1,(A.getD q (0,[])).2.set b x):=by
    rw[Vm,Bt8 m];rfl
   rw[O,C];rw[C]at B;exact(Bdt B hj x).1
  have O:(A.set u ((A.getD u (0,[])).1,(A.getD u (0,[])).2.set b x)).getD q (0,[])=A.getD q (0,[]):=by
   rw[Vm,Bt2 Ck,<- Vm]
  rw[O];exact G (h.flds q l) (h.flds_ne m l Ck D)
 ·rw[Y q Ck];exact h.keep q h1 h2 h3
 ·exact h.low.setCell Fr _
 simp[World.setCell];exact h.szs
def Bmp(k:Cw)(S:Bo)(v:Dd)(r s x:Int)(w:TW)(A:k.Ok)(h:Bw k S v w):Calls prog 283 #[.q k.B 10,.i r,.i s,.i x] w fun e I=>e=.r (.tuple #[])/\Bw k (S.withObjs (Ra r s x S.objs)) v I:=by
 have c:=Wc k S v r s w h;have J:=h.sees.c10;unfold Ra;cases b:Iq r s S.objs with
 | false =>
  rw[b]at c;rw[Pk Hd];clear b;go_in;go_wp2_with fail;refine Qm c ?_;rintro K rfl;go_wp2;go_end0;exact⟨rfl,h⟩
 | true =>
  rw[b]at c;rw[Th rfl];obtain⟨i,j,t,rfl,rfl,z⟩:=Wv.1 b;rw[Bde,Brx,show ((i:Int)+1-1).toNat=i by omega];obtain⟨g,C,a0,L,N,O⟩:=h.rows.obj t;rw[C]at J;have a1:(i:Int)<(S.objs.length:Int):=Ck;have hl:=h.rows.ol;have f:=h.rows.flds i t;obtain⟨fa,fc,l⟩:=Bh f;have m:=f;rw[l]at N m;obtain⟨p,Q,a2,D⟩:=Wt m Ck;have z0:=D j z;have a3:(j:Int)<((S.objs.getD i (0,[])).2.length:Int):=Ck;subst Q;have zf:=(Bdt m z x).2;have F:=h.rows.putF A t z l x;have V:p≠k.B:=by
   have Y:(v.ov.getD i (.s none 0 0)).ownBlock=some p:=by rw[l];rfl
   have:=(f.lt p Y).1;have:=A.Bs;omega
  have G:Bw k (S.withObjs (S.objs.set i ((S.objs.getD i (0,[])).1,(S.objs.getD i (0,[])).2.set j x))) v (w.setCell (.a p j) (.i x)):=by
   refine⟨?_,h.wf,F⟩;have b:=h.blk;unfold Mid at b ⊢;rw[Brk _ _ _ _ (by simpa using Btj V)];simpa[Bo.withObjs] using b
  have Z:=Bc G;clear b O L C l f m D F G h;generalize (S.objs.getD i (0,[])).2=fs at *;generalize fs[j]=x0 at *;go_in;go_wp2_with fail;refine Qm c ?_;rintro K rfl;go_wp2;go_end0;exact⟨rfl,Ba Z⟩
def Bez{w:TW}{u b t n g i j:Nat}{e:TV}(h:w.ownsRow u b t (.s (.p g) n i) n e)(c:TX):(w.setCell (.a g j) c).ownsRow u b t (.s (.p g) n i) n (e.set j c):=by
 obtain⟨l,⟨f,C⟩|⟨D,F,G,f,m,q,v,z,A,B⟩⟩:=h
 ·simp at f
 simp only[Value.slice.injEq,Option.some.injEq,Addr.mk.injEq,Br8,Buw]at f;obtain⟨rfl,rfl⟩:=f;refine⟨by simpa using l,.inr ⟨g,i,_,rfl,m,Bt q _,v,z,by simpa using A,?_⟩⟩;rw[<- B,Bux,Bvy]
def Bd5{α β:Type}{f:α->Option β}:∀(l:List α) (i:Nat) (y:α),(l.filterMap f).Nodup->(∀g,f y=some g->∀u∈l,f u≠some g)->((l.set i y).filterMap f).Nodup
 | [],_,_,h,_=>h
 | x::r,0,y,h,hy=>by
  rw[Bvs];have p:(r.filterMap f).Nodup:=by
   cases c:f x with
   | none=>rw[Bt1 c]at h;exact h
   | some z=>rw[Bte c]at h;exact(List.nodup_cons.1 h).2
  cases j:f y with
  | none=>rw[Bt1 j];exact p
  | some g =>
   rw[Bte j];refine List.nodup_cons.2 ⟨fun m=>?_,p⟩;obtain⟨u,b,e⟩:=List.mem_filterMap.1 m;exact hy g j u (by simp[b]) e
 | x::r,i+1,y,h,hy=>by
  rw[Bsp];have q:∀g,f y=some g->∀u∈r,f u≠some g:=fun g s u b=>hy g s u (by simp[b]);cases c:f x with
  | none =>
   rw[Bt1 c]at h ⊢;exact Bd5 r i y h q
  | some z =>
   rw[Bte c]at h ⊢;obtain⟨t,v⟩:=List.nodup_cons.1 h;refine List.nodup_cons.2 ⟨fun m=>?_,Bd5 r i y v q⟩;obtain⟨u,b,e⟩:=List.mem_filterMap.1 m;rcases Bv5 b with b|rfl
   ·exact t (List.mem_filterMap.2 ⟨u,b,e⟩)
   exact hy z e x Hd c
def Dd.setO(v:Dd)(i:Nat)(u:TX):Dd:=⟨v.oa,v.oc,v.wa,v.wc,v.xa,v.xc,v.ov.set i u⟩
def Dq.setF{k:Cw}{A:List (Int×List Int)}{I:List Bi}{z:TI}{v:Dd}{w:TW}(h:Dq k A I z v w)(V:k.Ok){u b:Nat}(J:u<A.length)(t:v.oa=some ⟨b,0,none⟩){c:TX}{F:TI} (Y:De w k.w0.heap.size c F)(Z:∀q,c.ownBlock=some q->∀x∈(Value.slice v.xa z.length v.xc::v.ov),x.ownBlock≠some q):Dq k (A.set u ((A.getD u (0,[])).1,F)) I z (v.setO u c) (w.setCell (.a b (u*2+1)) c):=by
 have B:=h.objs;rw[t]at B;have ho:(Value.slice (.p b) A.length v.oc).ownBlock=some b:=rfl;have G:∃K:TV,w.heap[b]?=some (.cells K.toArray 215 (0,0)):=by
  obtain⟨_,⟨C,_⟩|⟨g',a1,a0,C,_,t,_⟩⟩:=B
  ·simp at C
  simp only[Value.slice.injEq,Option.some.injEq,Addr.mk.injEq,Br8]at C;obtain⟨rfl,_⟩:=C;exact⟨a0.toList,by simpa using t⟩
 obtain⟨K,G⟩:=G;have L:∀q,q≠b->(w.setCell (.a b (u*2+1)) c).heap[q]?=w.heap[q]?:=fun q m=>Brk _ _ _ _ (by simpa using m);have D:∀{j e N n:Nat}{x:TX}{O:TV},w.ownsRow j e N x n O->e≠215->(w.setCell (.a b (u*2+1)) c).ownsRow j e N x n O:=fun Q he=>Fz Q (fun q m=>L q (Fl Q G he q m));have hB:=V.Bs;have a2:=h.obk b (by rw[t];rfl);have a3:=h.ovl;have a4:=(B.lt b rfl).1;refine⟨?_,by simp[Dd.setO,h.ovl],by rw[Bsl];exact h.obk,fun q m=>?_,D h.wait Fm,h.wwf,D h.out Fm,?_,fun q h1 h2 h3=>?_,?_,?_⟩
 ·rw[Bsl];show (w.setCell (.a b (u*2+1)) c).ownsRow _ _ 2 (.s v.oa _ v.oc) _ (ocells _ (v.ov.set u c));rw[<- Zr A v.ov h.ovl u _ F c rfl J,t];exact Bez B c
 ·rw[Bsl]at m;show De _ _ ((v.ov.set u c).getD q (.s none 0 0)) _;by_cases e:q=u;·subst e;rw[Vm,Bt8 Ck,Vm,Bt8 J];exact D Y Fm
  rw[Vm,Bt2 Ck,<- Vm,Vm (l:=A.set u _),Bt2 Ck,<- Vm];exact D (h.flds q m) Fm
 ·have:=Bd5 (f:=Value.ownBlock) (Value.slice v.xa z.length v.xc::v.ov) (u+1) c h.nd Z;rw[Bsp]at this;exact this
 ·rw[L q Ck];exact h.keep q h1 h2 h3
 ·exact h.low.setCell Fr _
 simp[World.setCell];exact h.szs
def Bmn(k:Cw)(S:Bo)(v:Dd)(r:Int)(f:TA)(j:Nat)(b:TI)(w:TW)(F:k.Ok)(h:Bw k S v w)(p:De w k.w0.heap.size (.s f b.length j) b) (t:∀q,(Value.slice f b.length j).ownBlock=some q->∀x∈(Value.slice v.xa S.out.length v.xc::v.ov),x.ownBlock≠some q):Calls prog 280 #[.q k.B 10,.i r,.s f b.length j] w fun e G=>e=.r (.tuple #[])/\∃I,Bw k (S.withObjs (P9 r b S.objs)) I G:=by
 have l:=Yu k S v r w h;have J:=h.sees.c10;unfold P9;cases c:Lr r S.objs with
 | false =>
  rw[c]at l;rw[Pk Hd];clear c p t;go_in;go_wp2_with fail;refine Qm l ?_;rintro K rfl;go_wp2;go_end0;exact⟨rfl,v,h⟩
 | true =>
  rw[c]at l;rw[Th rfl];obtain⟨i,z,rfl⟩:=Vt.1 c;rw[Bde,show ((i:Int)+1-1).toNat=i by omega];obtain⟨g,m,Q,L,V,A⟩:=h.rows.obj z;have C:=h.rows.setF F z m p t;have Y:(i:Int)<(S.objs.length:Int):=Ck;have Z:=h.rows.ol;have a0:=A (i*2+1);have N:g≠k.B:=by
   have:=Fl h.rows.objs h.blk Fm g (by rw[m];rfl);exact this
  rw[m]at J;have D:Bw k (S.withObjs (S.objs.set i ((S.objs.getD i (0,[])).1,b))) (v.setO i (.s f b.length j)) (w.setCell (.a g (i*2+1)) (.s f b.length j)):=by
   refine⟨?_,h.wf,C⟩;have c:=h.blk;unfold Mid at c ⊢;rw[Brk _ _ _ _ (by simpa using Btj N)];simpa[Bo.withObjs,Iv,Gy,Dd.setO] using c
  have O:=Bc D;generalize v.ov.getD i (.s none 0 0)=a1 at *;clear c A L m C D h p t;go_in;go_wp2_with fail;refine Qm l ?_;rintro K rfl;go_wp2;go_end0;exact⟨rfl,_,Ba O⟩
def Tryz.infoObj:(prog.info? 215).map (fun i=>(i.zero,i.size,i.bytes))=some (some (.agg #[.i 0,.s none 0 0]),2,32):=Lt
def Bw.drewN{k:Cw}{S:Bo}{v:Dd}{w:TW}(h:Bw k S v w)(b:k.Ok)(n:Nat):Bw k S v (w.drewN n):=h.gr b ⟨rfl,rfl,rfl,Bru _,fun _ _=>rfl⟩
def Bw.drew{k:Cw}{S:Bo}{v:Dd}{w:TW}(h:Bw k S v w)(b:k.Ok):Bw k S v w.drew:=h.gr b ⟨rfl,rfl,rfl,Bru _,fun _ _=>rfl⟩
def Dq.addO{k:Cw}{A:List (Int×List Int)}{L:List Bi}{z:TI}{v:Dd}{w C:TW}(h:Dq k A L z v w)(Y:k.Ok){e:TV}(N:w.heap[k.B]?=some (.cells e.toArray 156 (0,0))){c:Int}{g:TA}{u:Nat} (Z:C.ownsRow k.wE.heap.size 215 2 (.s g (A.length+1) u) (A.length+1) (ocells A v.ov++[.i c,.s none 0 0]))(p:w.grownBy C (Value.slice v.oa A.length v.oc).ownBlock) (a0:(Value.slice g (A.length+1) u).ownBlock=(Value.slice v.oa A.length v.oc).ownBlock\/(Value.slice g (A.length+1) u).ownBlock=some w.heap.size):Dq k (A++[(c,[])]) L z ⟨g,u,v.wa,v.wc,v.xa,v.xc,v.ov++[.s none 0 0]⟩ C/\C.heap[k.B]?=w.heap[k.B]?:=by
 have G:=h.objs;have a1:∀f,(Value.slice v.oa A.length v.oc).ownBlock=some f->∃e:TV,w.heap[f]?=some (.cells e.toArray 215 (0,0)):=fun f D=>by
  obtain⟨_,⟨I,_⟩|⟨g',a5,a2,I,_,p,_⟩⟩:=G
  ·rw[I]at D;simp[Value.ownBlock]at D
  rw[I]at D;simp only[Value.ownBlock,Option.some.injEq]at D;subst D;exact⟨a2.toList,by simpa using p⟩
 have J:∀{b m O n:Nat}{x:TX}{Q:TV},w.ownsRow b m O x n Q->m≠215->C.ownsRow b m O x n Q:=fun K he=>Fz K (fun q t=>p.block q (K.lt q t).2 (fun m=>by
  obtain⟨e,hc⟩:=a1 q m.symm;exact Fl K hc he q t rfl))
 have a6:=Y.Bs;have a3:=h.ovl;have a4:C.heap[k.B]?=w.heap[k.B]?:=p.block k.B (Sp N) (fun m=>Fl G N Fm k.B m.symm rfl);refine⟨⟨?_,by simp[h.ovl],fun j F=>?_,fun q t=>?_,J h.wait Fm,h.wwf,J h.out Fm,?_,fun q V h2 h3=>?_,?_,Br5 h.szs p.size⟩,a4⟩
 ·rw[Ws,Bs8,Vs _ _ h.ovl];exact Z
 ·rw[Ws,Bs8]at F;rcases a0 with m|m
  ·rw[m]at F;exact h.obk j F
  rw[m]at F;have:w.heap.size=j:=by simpa using F
  exact .inr (by rw[<- this];exact h.szs)
 ·rw[Ws,Bs8]at t;by_cases m:q<A.length;·show De _ _ ((v.ov++[Value.slice none 0 0]).getD q _) _;rw[Vm,Br6 Ck,<- Vm,Vm (l:=A++_),Br6 m,<- Vm];exact J (h.flds q m) Fm
  have eq:q=A.length:=Ck;subst eq;show De _ _ ((v.ov++[Value.slice none 0 0]).getD _ _) _;rw[Vm,Br0 Ck,Vm (l:=A++_),Br0 Ck,a3];simp only[Bus,Btt,Bwb];exact Brw _ _ _ _
 ·have m:(Value.slice v.xa z.length v.xc::(v.ov++[.s none 0 0])).filterMap Value.ownBlock=(Value.slice v.xa z.length v.xc::v.ov).filterMap Value.ownBlock:=by
   rw[<- Bs5,List.filterMap_append];simp[Value.ownBlock]
  rw[m];exact h.nd
 ·rw[p.block q (Brs V h.szs) (fun m=>by rcases h.obk q m.symm with e'|e'<;>omega)];exact h.keep q V h2 h3
 exact⟨p.os.trans h.low.os,p.tape.trans h.low.tape,p.output.trans h.low.output,Br5 h.low.size p.size,
  fun q t=>(p.block q (Brs t h.low.size) (fun m=>by have:=(G.lt q m.symm).1;omega)).trans (h.low.block q t)⟩
def Bdn(k:Cw)(S:Bo)(v:Dd)(c:Int)(w:TW)(b:k.Ok)(h:Bw k S v w)(g:S.objs.length<=1000)(j:k.room<=(S.objs.length:Int)-5):Calls prog 278 #[.q k.B 10,.i c] w fun e f=>e=.r (.tuple #[.i 0,.bool false])/\Bw k S v f:=by
 have l:=h.sees.c10;have m:=h.sees.c11;obtain⟨p,s⟩:=b.rm;go_in;go_wp2;go_quiet (fail);go_wp2;go_ret2;exact⟨rfl,h.drewN b _⟩
def Bm0(k:Cw)(S:Bo)(v:Dd)(f:Int)(w:TW)(b:k.Ok)(h:Bw k S v w)(a1:S.objs.length<=1000)(hr:¬k.room<=(S.objs.length:Int)-5):Calls prog 278 #[.q k.B 10,.i f] w fun e J=>e=.r (.tuple #[.i ((S.objs.length:Int)+1),.bool true])/\∃p,Bw k (S.withObjs (S.objs++[(f,[])])) p J:=by
 have a2:=h.sees.c10;have a3:=h.sees.c11;have a4:=h.sees.fr 10;obtain⟨r0,r1⟩:=b.rm;obtain⟨K,L,N,O,Q⟩:=Bsa Tryz.infoObj;have a5:=h.rows.low.size;have t:Hid (Bw k S v w):=h;have V:=h.rows.objs;clear h;go_in;go_wp2;go_quiet (fail);rename_i nq;have l:=(Ba t).drewN b nq;have z:=l.rows.objs;have A:=Bc l;clear l V;go_wp2_with (at_builtin;refine Btl _ rfl _ _ 146 rfl k.wE.heap.size 215 K _ 2 32 underlying146 L N O Q rfl Fm _ _ _ rfl (z.alloc _) ⟨w.heap.size,0,none⟩ 1 1 [.i f,.s none 0 0] rfl rfl ?c1 ?c2 ?c3 ?c4 ?c5 ?_)
 case c1=>exact Dh _ _ _ _ rfl
 case c2=>intro u C;simp at C;rcases C with rfl|rfl<;>rfl
 case c3=>unfold maxLen;omega
 case c4=>omega
 case c5=>simp;omega
 intro p Y m D _ F;obtain⟨Z,oc,rfl⟩:=Bh m;have c:=(Ba A).gr b (QN (O27 f none 0 0));obtain⟨G,I⟩:=c.rows.addO b c.blk m D (by simpa using F);have g:Mid Y k.B 156 (Iv k S.read S.objs.length v) S.now.cells (Gy v S.wait.length S.out.length S.ended S.status S.value S.steps):=I.trans c.blk;have a0:=g.front.cell (o:=0) (j:=10) rfl (by rw[Ij];omega);have a6:=g.free 10;have HM:=Bc g;have HR:=Bc G;have HW:=Bc c.wf;simp[Iv]at a0;clear g G c A t m D F I z;go_wp2;go_ret2;refine⟨rfl,⟨Z,oc,v.wa,v.wc,v.xa,v.xc,v.ov++[.s none 0 0]⟩,?_⟩;exact Bla (Ba HM) (Ij _ _ _ _) (Ba HW) b Ck _ rfl (by simp[Iv,Bo.withObjs]) rfl (Ba HR)
def Bff(c:Int)(w:TW)(f:0<=c)(g:c<=100):Calls prog 277 #[.i c] w fun e b=>e=.r (.i (c-2+1))/\b=w:=by
 go_in;go_wp2;go_ret;exact⟨rfl,rfl⟩
def Vi:∀(W:List Bi),(∀c∈W,Dz c)->(W.flatMap Bi.cells).length=W.length*20
 | [],_=>rfl
 | c::r,h=>by
  rw[Bsz,Ws,Vi r (fun x b=>h x (by simp[b])),(h c Hd).len,Br7];omega
def Bmk{w:TW}{u b t n m c:Nat}{a:TA}{e J:TV}(h:w.ownsRow u b t (.s a n c) n (e++J))(f:e.length=m*t)(j:m<=n)(B:0<n):w.ownsRow u b t (.s a m c) m e:=by
 obtain⟨C,⟨i,D⟩|⟨g,F,l,i,p,q,G,v,z,A⟩⟩:=h
 ·omega
 simp only[Value.slice.injEq,Buw]at i;obtain⟨rfl,rfl⟩:=i;refine⟨f,.inr ⟨g,c,l,rfl,p,q,Ck,v,z,?_⟩⟩;have:=congrArg (List.take (m*t)) A;rw[Btw,Bum (Bwz _ j),<- f,List.take_left]at this;rw[<- f];exact this
def Dq.last{k:Cw}{A:List (Int×List Int)}{W:List Bi}{c:Bi}{z:TI}{v:Dd}{w:TW}(h:Dq k A (W++[c]) z v w):∃g,v.wa=some ⟨g,0,none⟩/\g<w.heap.size/\w.rangeAt g (W.length*20) c.cells/\W.length<v.wc/\v.wc<=maxLen:=by
 have b:=h.wait;obtain⟨g,l,m,_,p⟩:=Cf b Hd;have e:=Vi W (fun x q=>h.wwf x (by simp[q]));refine⟨g,l,m,fun j u f=>?_,?_⟩
 ·have C:=(List.getElem?_eq_some_iff.1 f).1;rw[p _ (by rw[Bst,Ws,e];simp;omega),Bst,Br0 Ck,e,show W.length*20+j-W.length*20=j by omega];simpa using f
 obtain⟨_,⟨_,s⟩|⟨D,F,G,i,_,_,t,B,_⟩⟩:=b
 ·simp at s
 simp only[Value.slice.injEq]at i;obtain⟨_,_,rfl⟩:=i;simp at t;exact⟨Ck,B⟩
def Dq.drop{k:Cw}{A:List (Int×List Int)}{W:List Bi}{c:Bi}{z:TI}{v:Dd}{w:TW}(h:Dq k A (W++[c]) z v w):Dq k A W z v w:=by
 refine⟨h.objs,h.ovl,h.obk,h.flds,?_,fun x b=>h.wwf x (by simp[b]),h.out,h.nd,h.keep,h.low,h.szs⟩;have e:=h.wait;rw[Bst]at e;exact Bmk e (Vi W (fun x b=>h.wwf x (by simp[b]))) Hd Hd
def Bdl(k:Cw)(S:Bo)(v:Dd)(w:TW)(h:Bw k S v w)(b:S.wait=[]):Calls prog 252 #[.q k.B 0] w fun e f=>e=.r (.bool false)/\Bw k S v f:=by
 have c:=h.sees.c32;rw[b]at c;simp at c;clear b;go_in;go_wp2;go_ret;exact⟨rfl,h⟩
def Wo(k:Cw)(S:Bo)(v:Dd)(W:List Bi)(c:Bi)(w:TW)(A:k.Ok)(h:Bw k S v w)(m:S.wait=W++[c]):Calls prog 252 #[.q k.B 0] w fun e J=>e=.r (.bool true)/\Bw k ⟨S.read,S.objs,c,W,S.ended,S.out,S.status,S.value,S.steps⟩ v J:=by
 have p:=h.sees.c32;have f:=h.rows;rw[m]at p f;obtain⟨g,t,a0,K,a1,L⟩:=f.last;have b:Dz c:=f.wwf c Hd;have C:=f.drop;have z:=h.blk;have N:S.wait.length=W.length+1:=by rw[m];simp
 rw[N]at z;have i:=Pe c.cells _ S.now.cells _ w (by rw[h.wf.len,b.len]) z;rw[Ij]at i;have D:=Rk k.B c.cells 12 w;have F:=C.gr A h.blk D;have O:w.there k.B 12 c.cells.toArray.size:=h.blk.there (o:=12) rfl (by rw[h.wf.len];simp[b.len]);have Q:(prog.info? 152).map (·.size)=some c.cells.toArray.size:=by rw[Tryz.infoCall];simp[b.len]
 have V:(prog.info? 152).map (·.size)=some c.cells.length:=by rw[Tryz.infoCall];simp[b.len]
 have Y:=Bui (Nl c);have l:=Sj (j:=0) (S':=⟨S.read,S.objs,c,W,S.ended,S.out,S.status,S.value,S.steps⟩) (v':=v) i (Ij _ _ _ _) (Lc _ _ _ _ _ _ _) b A Ck (.s v.wa W.length v.wc) rfl rfl rfl F;have G:=i.tail.cell (o:=32) (j:=0) (by rw[Ws,Ij,b.len]) (by rw[Lc];omega);have zf:=i.free 32;have I:(Gy v (W.length+1) S.out.length S.ended S.status S.value S.steps)[0]?=some (.s v.wa (W.length+1) v.wc):=rfl;rw[I,t]at G;rw[t]at p l;simp only[Ws,Bs8,Bvh]at p G l;have Z:=Bc l;have a2:v.wc<=9223372036854775807:=by unfold maxLen at L;omega
 clear i D F l z f C m t I h;go_in;go_wp2_with (first|(refine wpList_load_mid Ls 152 (.tmp 18) Ls g (W.length*20) Ls c.cells _ K Bu4 Ls V ?_)|(refine wpList_store_mid Ls 152 (.tmp 21) (.tmp 19) Ls k.B 12 c.cells.toArray Ls Ls O Q Y ?_))
 go_ret;exact⟨rfl,Ba Z⟩
def W7 (r:Option Nat):Int:=match r with
 | none=>0
 | some t=>(t:Int)
def Be2(k:Cw)(S:Bo)(v:Dd)(G:Int)(w:TW)(ok:k.Ok)(h:Bw k S v w)(hH:(k.E.meth S.now.meth).handlers.length<=1000/\∀x∈(k.E.meth S.now.meth).handlers,0<=x.target):Calls prog 285 #[.q k.B 0,.i G] w fun e I=>e=.r (.tuple #[.i (W7 (k.E.target G S.now)),.bool (k.E.target G S.now).isSome])/\Bl w I:=by
 have hm:=N8 k S v S.now.meth w ok h;have d4:=h.sees.c12;have b6:=h.sees.c13;have c2:=h.sees.c2;have c3:=h.sees.c3;have hT:=h.rows.tree ok;have a6:=h.blk.lt;have b7:=ok.tl;unfold Dn.target;have eT:k.E.T=k.T:=rfl;rw[eT];generalize k.E.meth S.now.meth=M at *;generalize f:Hi k.T G S.now.pos M.handlers=r;have Z:Hid (Hi k.T G S.now.pos (M.handlers.drop 0)=r):=f;obtain⟨d5,b8⟩:=hH;have HM:=Bc hm;clear hm h f eT;go_in;go_wp2_with fail;refine(Ba HM).mono ?_;rintro e w1 ⟨m,rfl,hM,b9⟩;have b2:=hM.hs;have b4:=hM.hl;obtain⟨m1,m2,m3,m4,m5,m6,m7,m8,m9,ma,mb,mc,md,me,mf,mg,mh,mi⟩:=m;simp only at b2 b4;subst b4;simp only[PM.val];have c0:∀w:TW,(Instr.field 133 (.agg #[.i m1,.i m2,.s m3 m4 m5,.i m6,.i m7,.i m8,.i m9,.s ma mb mc,.s md M.handlers.length mf,.s mg mh mi]) 7).run prog w=.ok (.s md M.handlers.length mf) w:=fun _=>Lt;clear HM hM;go_wp2;clear c0
 go_loopw [17] (fun i wr=>∃q:Nat,q<=M.handlers.length/\i=.i (q:Int)/\Hid (Hi k.T G S.now.pos (M.handlers.drop q)=r)/\Bl w1 wr)
  (fun i _=>M.handlers.length-(intOf i).toNat)
 case atStart=>exact⟨0,Ck,rfl,Z,Brm _ _⟩
 case round=>
  obtain⟨q,hq,rfl,Z,N⟩:=hrel;have O:=QB b9 N;by_cases z:q<M.handlers.length
  ·obtain⟨g,hg,a7,_,a4⟩:=Cf b2 Ck;have y0:=(N.cell (p:=.a g (q*4+0)) a7).trans ((a4 _ (Db M.handlers q z 0 Ck).2).trans (Db M.handlers q z 0 Ck).1);have y1:=(N.cell (p:=.a g (q*4+1)) a7).trans ((a4 _ (Db M.handlers q z 1 Ck).2).trans (Db M.handlers q z 1 Ck).1);have y2:=(N.cell (p:=.a g (q*4+2)) a7).trans ((a4 _ (Db M.handlers q z 2 Ck).2).trans (Db M.handlers q z 2 Ck).1);have y3:=(N.cell (p:=.a g (q*4+3)) a7).trans ((a4 _ (Db M.handlers q z 3 Ck).2).trans (Db M.handlers q z 3 Ck).1);have c1:=b8 _ (Brn z);have hd:M.handlers.drop q=M.handlers[q]::M.handlers.drop (q+1):=by rw[Brj z]
   have f:=Ba Z;rw[hd,Hi]at f;generalize M.handlers[q]=x at *;obtain⟨A,D,l,t⟩:=x;simp only at y0 y1 y2 y3 c1 f;have d2:=(O.cell (p:=.a k.B 2) a6).trans c2;have d3:=(O.cell (p:=.a k.B 3) a6).trans c3;have c4:=(O.cell (p:=.a k.B 13) a6).trans b6;have a8:k.B<wr.heap.size:=Brs a6 O.size;have c5:=hT.below O;have a9:=fun w=>Af ⟨A,D,l,t⟩ (S.now.pos:Int) w;have b0:=fun w hT=>Pb (ya:=k.ya) (yn:=k.lf.length) (yc:=k.yc) k.T k.tg k.tc G t w b7 hT;have qb:(q:Int)<(M.handlers.length:Int):=Ck;have c6:=N.alloc N.size (O19 A D l t);have CH:=Be wr (O19 A D l t);subst hg;simp at y0 y1 y2 y3;clear a4 hd Z b2;have j:=Sp CH;obtain⟨Q,V,L,Y⟩:=cl4 CH;have a0:Bl wr (wr.alloc (O19 A D l t)):=QN _;have e2:=(a0.cell (p:=.a k.B 2) a8).trans d2;have e3:=(a0.cell (p:=.a k.B 3) a8).trans d3;have a1:=(a0.cell (p:=.a k.B 13) a8).trans c4;have c7:=c5.below a0;have J:k.B<(wr.alloc (O19 A D l t)).heap.size:=Brs a8 a0.size;have b5:=QB O a0;have b1:Hid (Bl w1 (wr.alloc (O19 A D l t))):=c6;generalize c8:Fo ⟨A,D,l,t⟩ (S.now.pos:Int)=CV at *;generalize c9:Tr.within k.T G t=WI at *;clear c8 c9;have a2:=Bc (fun (_:Unit)=>f);clear f;go_wp2;generalize (wr.alloc (O19 A D l t))=wA at *;simp at Q V L Y;refine Br4 (S:=(fun I=>I.C wr.heap.size 0 (.i A)/\I.C wr.heap.size 1 (.i D)/\I.C wr.heap.size 2 (.i l)/\I.C wr.heap.size 3 (.i t)/\I.C k.B 13 (.i (S.now.pos:Int))/\I.C k.B 2 (.s (.p k.tg) k.T.length k.tc)/\I.C k.B 3 (.s k.ya k.lf.length k.yc))) Lt ⟨Q,V,L,Y,a1,e2,e3⟩ (fun b=>?_);refine tq 0 (.agg #[.i A,.i D,.i l,.i t]) b ?_;refine tq 1 (.q k.B 0) b ?_;refine tq 2 (.q k.B 0) b ?_;refine tq 3 (.q k.B 12) b ?_;refine tq 4 (.q k.B 13) b ?_;refine tq 5 (.i (S.now.pos:Int)) b ?_;refine tr 6 fun K hK=>?_;go_simp;refine Qm (a9 _) ?_;intro w7 c
   try dsimp only
   clear b;refine hK.out _ _ ⟨QC c j Q,QC c j V,QC c j L,QC c j Y,QC c J a1,QC c J e2,QC c J e3⟩ (fun b=>?_);clear hK K
   try simp only[QX]
   have f:=Ba a2 ();clear a2;cases CV with
   | false =>
    rw[Bt6,Pk Hd]at f;have a3:=Bc f;clear f b0;refine tq 7 (.bool false) b ?_;refine tn 8 undef b ?_;refine tn 9 undef b ?_;refine tn 10 undef b ?_;refine tn 11 undef b ?_;refine tn 12 undef b ?_;refine tn 13 undef b ?_;refine tn 14 undef b ?_;refine tn 15 undef b ?_;refine tq 16 (.bool false) b ?_;refine Bsg Lt ?_ _;have a5:=(Ba b1).drew.trans (c.mono (Ba b1).size);clear b Q V L Y e2 e3 a1 a9;go_wp2;go_roundw
    case rel=>exact⟨q+1,Ck,Mg,a3,a5⟩
    case measure=>simp[intOf];omega
   | true =>
    rw[Bts]at f;have a2:=Bc (fun (_:Unit)=>f);clear f;refine tq 7 (.bool true) b ?_;refine tq 8 (.q k.B 0) b ?_;refine tq 9 (.q k.B 0) b ?_;refine tq 10 (.q k.B 2) b ?_;refine tq 11 (.agg #[.s (.p k.tg) k.T.length k.tc,.s k.ya k.lf.length k.yc]) b ?_;refine tq 12 (.i G) b ?_;refine tq 13 (.q wr.heap.size 3) b ?_;refine tq 14 (.i t) b ?_;refine tr 15 fun K hK=>?_;go_simp;refine Qm (b0 _ ((show Dy wA.drew k.tg k.T from c7).below c)) ?_;intro w8 F
    try dsimp only
    clear b;refine hK.out _ _ ⟨QC F (QL c j) (QC c j Q),QC F (QL c j) (QC c j V),QC F (QL c j) (QC c j L),QC F (QL c j) (QC c j Y),QC F (QL c J) (QC c J a1),QC F (QL c J) (QC c J e2),QC F (QL c J) (QC c J e3)⟩ (fun b=>?_);clear hK K
    try simp only[QX]
    refine tq 16 (.bool WI) b ?_;refine Bsg Lt ?_ _;have f:=Ba a2 ();cases WI with
    | false =>
     rw[Pk Hd]at f;have a3:=Bc f;have a5:=(Ba b1).drew.trans (c.mono (Ba b1).size);have b3:=QB a5 F;clear b Q V L Y e2 e3 a1 a9 b0 f a2;go_wp2;go_roundw
     case rel=>exact⟨q+1,Ck,Mg,a3,b3⟩
     case measure=>simp[intOf];omega
    | true =>
     rw[Th rfl]at f;have a3:Hid (W7 r=l/\r.isSome=true):=by
      unfold Hid;rw[<- f];exact⟨by show ((l.toNat:Nat):Int)=l;omega,rfl⟩
     have a5:=b5.drew.trans (c.mono b5.size);have b3:=QB a5 F;have d6:=QC F (QL c j) (QC c j L);clear b Q V L Y e2 e3 a1 a9 b0 f a2;go_wp2;go_ret2;refine⟨?_,b3⟩;rw[(Ba a3).1,(Ba a3).2];rfl
  have d0:q=M.handlers.length:=Ck;subst d0;have f:=Ba Z;rw[List.drop_length]at f;have d1:r=none:=f.symm;clear f Z;subst d1;go_wp2;go_ret2;exact⟨rfl,O⟩
def Cw.Ok.hm{k:Cw}(g:k.Ok)(n:Int):(k.E.meth n).handlers.length<=1000/\∀x∈(k.E.meth n).handlers,0<=x.target:=by
 unfold Dn.meth
 split
 ·exact⟨by simp[Ef],fun x c=>by simp[Ef]at c⟩
 split
 ·exact⟨by simp[Ef],fun x c=>by simp[Ef]at c⟩
 rename_i h i;have j:k.E.ms.length=k.lms.length:=by simp[Cw.E]
 have f:n.toNat<k.lms.length:=Ck;have e:k.E.ms.getD n.toNat Ef=k.lms[n.toNat].1:=by
  rw[Vm];simp[Cw.E,f]
 rw[e];obtain⟨a,b⟩:=g.hn _ (Brn f);exact⟨a,fun x c=>(b x c).1⟩
def Big (k:Cw)(w:TW):Nat:=match w.cell? ⟨k.B,32,none⟩ with
 | some (.slice _ n _)=>n
 | _=>0
def Bw.wl{k:Cw}{S:Bo}{v:Dd}{w:TW}(h:Bw k S v w):Big k w=S.wait.length:=by
 unfold Big;rw[h.sees.c32]
def Bih:TX->Nat
 | .bool true=>1
 | _=>0
def Zu(k:Cw)(S:Bo)(v:Dd)(o:Int)(w:TW)(s:k.Ok)(h:Bw k S v w):Calls prog 253 #[.q k.B 0,.i o] w fun e w'=>e=.r (.tuple #[])/\∃j,Bw k (Lf k.E o S) j w':=by
 have V:=Tc k S v o w h;unfold Lf;generalize Ho o S.objs=C at *;generalize Y:Jd k.E o C (S.wait.length+1) S=R;have l:=Bc Y;have Z:=fun S v w h=>Be2 k S v C w s h (s.hm S.now.meth);have HT:=Bc Z;have m:=Bc h;clear Y Z h;go_in;go_wp2_with fail;refine Qm V ?_;rintro w1 rfl;go_wp2
 go_loopw [5] (fun b wr=>∃(f:Bo) (j:Dd),Hid (Bw k f j wr)/\((b=.bool true/\Hid (Jd k.E o C (f.wait.length+1) f=R))\/(b=.bool false/\Hid (f.fin 2 C=R))))
  (fun b wr=>Bih b*(1+Big k wr))
 case atStart=>exact⟨S,v,m,.inl ⟨rfl,l⟩⟩
 case round=>
  clear l m V;obtain⟨f,j,m,⟨rfl,l⟩|⟨rfl,l⟩⟩:=hrel
  ·have z:=Ba m;have G:=Ba HT f j wr z;have g:=Ba l;rw[Jd]at g;have a0:=z.wl;cases L:k.E.target C f.now with
   | some t =>
    rw[L]at G g;simp only at g;have A:=Bc g;clear g l m;go_wp2_with fail;refine Qm G ?_;intro N I;have p:=z.gr s I;have a1:=Bjv f.now o t k.B 12 156 _ _ N rfl p.wf p.blk;simp only[W7,Option.isSome];go_wp2_with fail;refine Qm a1 ?_;rintro w3 ⟨h3,a2⟩;have D:=p.now s a2 (Boh p.wf o t) h3;go_wp2;refine tb (.tuple #[]) (by simp[results,results253,go_sem]) ?_;exact⟨rfl,j,by rw[<- Ba A];exact D⟩
   | none =>
    rw[L]at G g;simp only at g;have z:=Ba m;cases F:f.wait.getLast? with
    | none =>
     rw[F]at g;simp only at g;have J:f.wait=[]:=by simpa using F
     have A:=Bc g;have K:=fun w h=>Bdl k f j w h J;clear g l m L F;go_wp2_with fail;refine Qm G ?_;intro N I;have p:=z.gr s I;simp only[W7,Option.isSome];go_wp2_with fail;refine Qm (K _ p) ?_;intro w3 D;have O:=Bc D;go_wp2;go_roundw
     case rel=>exact⟨f,j,O,.inr ⟨rfl,A⟩⟩
     case measure=>simp[Bih];omega
    | some c =>
     rw[F]at g;simp only at g;have J:f.wait=f.wait.dropLast++[c]:=by
      have:=List.getLast?_eq_some_iff.1 F;obtain⟨ys,e⟩:=this;rw[e];simp
     have Q:f.wait.length=f.wait.dropLast.length+1:=by
      conv=>lhs;rw[J]
      simp
     rw[Q]at g;have A:=Bc g;have K:=fun w h=>Wo k f j _ c w s h J;generalize f.wait.dropLast=W at *;have HL:=Bc Q;clear g l m L F J Q;go_wp2_with fail;refine Qm G ?_;intro N I;have p:=z.gr s I;simp only[W7,Option.isSome];go_wp2_with fail;refine Qm (K _ p) ?_;intro w3 D;have a3:=D.wl;have O:=Bc D;go_wp2;go_roundw
     case rel=>exact⟨_,j,O,.inl ⟨rfl,A⟩⟩
     case measure=>
      have:=Ba HL;simp[Bih,a0,a3];omega
  have z:=Ba m;have K:=Yv k f j 2 C wr s z;have A:=l;clear l m HT;go_wp2_with fail;refine Qm K ?_;intro N p;go_wp2;go_end0;exact⟨rfl,j,by rw[<- Ba A];exact p⟩
def Ht(k:Cw)(S:Bo)(v:Dd)(b:Int)(w:TW)(f:k.Ok)(h:Bw k S v w)(g:0<=b)(j:b<=100):Calls prog 242 #[.q k.B 0,.i b] w fun e l=>e=.r (.tuple #[])/\∃c,Bw k (Fd k.E b S) c l:=by
 have m:=Bff b w g j;have p:=Zu k S v (b-2+1) w f h;unfold Fd;generalize Lf k.E (b-2+1) S=R at *;generalize b-2+1=o at *;clear h;go_in;go_wp2_with fail;refine Qm m ?_;rintro t rfl;go_wp2_with fail;refine Qm p ?_;rintro z ⟨c,s⟩;go_wp2;go_end0;exact⟨rfl,c,s⟩
def Nc(k:Cw)(S:Bo)(v:Dd)(w:TW)(b:k.Ok)(h:Bw k S v w):Calls prog 240 #[.q k.B 12] w fun e c=>e=.r (.i S.top)/\Bw k S.popped v c :=
 (Is S.now k.B 12 156 _ _ w rfl h.wf h.blk).mono fun _ _ ⟨f,g,j⟩=>⟨f,h.now b j (Fc h.wf) g⟩
def Nb(k:Cw)(S:Bo)(v:Dd)(x:Int)(w:TW)(b:k.Ok)(h:Bw k S v w):Calls prog 238 #[.q k.B 12,.i x] w fun e c=>e=.r (.tuple #[])/\Bw k (S.push x) v c :=
 (Kv S.now x k.B 12 156 _ _ w rfl h.wf h.blk).mono fun _ _ ⟨f,g,j⟩=>⟨f,h.now b j (Ko h.wf x) g⟩
def Dq.addX{k:Cw}{A:List (Int×List Int)}{J:List Bi}{z:TI}{v:Dd}{w t:TW}(h:Dq k A J z v w)(K:k.Ok){e:TV}(L:w.heap[k.B]?=some (.cells e.toArray 156 (0,0))){x:Int}{g:TA}{u:Nat} (ho:t.ownsRow k.w0.heap.size 3 1 (.s g (z.length+1) u) (z.length+1) (z.map (Value.int .i64)++[.i x]))(m:w.grownBy t (Value.slice v.xa z.length v.xc).ownBlock) (a0:(Value.slice g (z.length+1) u).ownBlock=(Value.slice v.xa z.length v.xc).ownBlock\/(Value.slice g (z.length+1) u).ownBlock=some w.heap.size):Dq k A J (z++[x]) ⟨v.oa,v.oc,v.wa,v.wc,g,u,v.ov⟩ t/\t.heap[k.B]?=w.heap[k.B]?:=by
 have D:=h.out;have a1:∀c,(Value.slice v.xa z.length v.xc).ownBlock=some c->∃e:TV,w.heap[c]?=some (.cells e.toArray 3 (0,0)):=fun c C=>by
  obtain⟨_,⟨G,_⟩|⟨g',a6,a2,G,_,m,_⟩⟩:=D
  ·rw[G]at C;simp[Value.ownBlock]at C
  rw[G]at C;simp only[Value.ownBlock,Option.some.injEq]at C;subst C;exact⟨a2.toList,by simpa using m⟩
 have N:∀{b f O n:Nat}{x:TX}{Q:TV},w.ownsRow b f O x n Q->f≠3->t.ownsRow b f O x n Q:=fun I he=>Fz I (fun q p=>m.block q (I.lt q p).2 (fun f=>by
  obtain⟨e,hc⟩:=a1 q f.symm;exact Fl I hc he q p rfl))
 have a7:=K.Bs;have a8:=h.ovl;have a3:t.heap[k.B]?=w.heap[k.B]?:=m.block k.B (Sp L) (fun f=>Fl D L Fm k.B f.symm rfl);refine⟨⟨N h.objs Fm,h.ovl,h.obk,fun q p=>?_,N h.wait Fm,h.wwf,?_,?_,fun q V h2 h3=>?_,?_,Br5 h.szs m.size⟩,a3⟩
 ·exact Fz (h.flds q p) (fun j Y=>m.block j ((h.flds q p).lt j Y).2 (fun f=>h.out_ne p Y f.symm))
 ·unfold De;rw[Ws,Bs8,Bse];exact ho
 ·rw[Ws,Bs8];rcases a0 with f|f
  ·have:(Value.slice g (z.length+1) u::v.ov).filterMap Value.ownBlock=(Value.slice v.xa z.length v.xc::v.ov).filterMap Value.ownBlock:=by
    simp only[List.filterMap_cons,f]
   show ((Value.slice g (z.length+1) u::v.ov).filterMap Value.ownBlock).Nodup;rw[this];exact h.nd
  show ((Value.slice g (z.length+1) u::v.ov).filterMap Value.ownBlock).Nodup;rw[Bte f];have F:=h.nd;refine List.nodup_cons.2 ⟨fun hm=>?_,?_⟩
  ·obtain⟨l,hu,a4⟩:=List.mem_filterMap.1 hm;obtain⟨i,hi,rfl⟩:=Bvl hu;have a5:i<A.length:=Ck;have e2:v.ov.getD i (.s none 0 0)=v.ov[i]:=by rw[Vm,Brl hi];rfl
   have:=((h.flds i a5).lt w.heap.size (by rw[e2];exact a4)).2;omega
  cases Z:(Value.slice v.xa z.length v.xc).ownBlock with
  | none=>rw[Bt1 Z]at F;exact F
  | some y=>rw[Bte Z]at F;exact(List.nodup_cons.1 F).2
 ·rw[m.block q (Brs V h.szs) (fun f=>by have:=(D.lt q f.symm).1;omega)];exact h.keep q V h2 h3
 exact⟨m.os.trans h.low.os,m.tape.trans h.low.tape,m.output.trans h.low.output,Br5 h.low.size m.size,
  fun q p=>(m.block q (Brs p h.low.size) (fun f=>by have:=(D.lt q f.symm).1;have:=K.sz;omega)).trans (h.low.block q p)⟩
def Bmq(k:Cw)(S:Bo)(v:Dd)(w:TW)(f:k.Ok)(h:Bw k S v w)(a3:S.out.length<=100000):Calls prog 197 #[.q k.B 0] w fun e Y=>e=.r (.tuple #[])/\∃z,Bw k (Vd S) z Y:=by
 have A:=Nc k S v w f h;obtain⟨Z,hi,a0,a1,a2⟩:=Bsa Tryz.infoInt;have e:Vd S=⟨S.popped.read,S.popped.objs,S.popped.now,S.popped.wait,S.popped.ended,S.out++[S.top],S.popped.status,S.popped.value,S.popped.steps⟩:=rfl;rw[e];generalize S.top=x at *;clear h e;go_in;go_wp2_with fail;refine Qm A ?_;intro g b;have a4:g.C k.B 34 (.s v.xa S.out.length v.xc):=b.sees.c34;have a5:=b.sees.fr 34;have a6:=b.rows.szs;have D:g.ownsRow k.w0.heap.size 3 1 (.s v.xa S.out.length v.xc) S.out.length (S.out.map (Value.int .i64)):=b.rows.out;have F:=Bc b;clear b A;go_wp2_with (at_builtin;refine Btl _ rfl _ _ 26 rfl k.w0.heap.size 3 Z _ 1 8 Bta hi a0 a1 a2 rfl Fm _ _ _ rfl (D.alloc _) ⟨g.heap.size,0,none⟩ 1 1 [.i x] rfl rfl ?c1 ?c2 ?c3 ?c4 ?c5 ?_)
 case c1=>exact Dh _ _ _ _ rfl
 case c2=>intro u G;simp at G;subst G;rfl
 case c3=>unfold maxLen;omega
 case c4=>omega
 case c5=>simp;omega
 intro z w2 m I _ J;obtain⟨p,t,rfl⟩:=Bh m;have c:=(Ba F).gr f (QN (O4 x));have K:(Value.slice p (S.out.length+1) t).ownBlock=(Value.slice v.xa S.out.length v.xc).ownBlock\/(Value.slice p (S.out.length+1) t).ownBlock=some (g.alloc (O4 x)).heap.size:=by simpa using J
 obtain⟨L,N⟩:=c.rows.addX f c.blk m I K;have l:Mid w2 k.B 156 (Iv k S.popped.read S.popped.objs.length v) S.popped.now.cells (Gy v S.popped.wait.length S.popped.out.length S.popped.ended S.popped.status S.popped.value S.popped.steps):=N.trans c.blk;have O:(Iv k S.popped.read S.popped.objs.length v++S.popped.now.cells).length=32:=by rw[Ws,Ij,c.wf.len]
 have Q:=l.tail.cell (j:=2) O (by rw[Lc];omega);have a7:=l.free 34;have V:(Gy v S.popped.wait.length S.popped.out.length S.popped.ended S.popped.status S.popped.value S.popped.steps)[2]?=some (.s v.xa S.out.length v.xc):=rfl;rw[V]at Q;simp only[Nat.reduceAdd]at Q;have HM:=Bc l;have HR:=Bc L;have HW:=Bc c.wf;clear l L c F m I J K N D V O;go_wp2;go_end0;refine⟨rfl,⟨v.oa,v.oc,v.wa,v.wc,p,t,v.ov⟩,?_⟩;exact Sj (j:=2) (Ba HM) (Ij _ _ _ _) (Lc _ _ _ _ _ _ _) (Ba HW) f Ck _ rfl rfl (by simp[Gy,Bo.popped,Bo.withNow]) (Ba HR)
def Boy(k:Cw)(S:Bo)(v:Dd)(w:TW)(b:k.Ok)(h:Bw k S v w)(K:S.read<=100000):Calls prog 196 #[.q k.B 0] w fun e A=>e=.r (.tuple #[])/\Bw k (Po k.E S) v A:=by
 have L:=h.sees.c9;have C:=h.sees.c5;have N:=h.sees.fr 9;have O:=b.il;have l:=h.rows.ints b;unfold Po;have m:k.E.ins=k.ins:=rfl;rw[m];have Q:decide ((0:Int)<=(S.read:Int))=true:=Hd;by_cases c:S.read<k.ins.length
 ·rw[Th c];obtain⟨g,o,D,V,Y⟩:=l S.read c;have F:decide ((S.read:Int)<(k.ins.length:Int))=true:=by simpa using c
  have G:decide (S.read<k.ins.length)=true:=by simpa using c
  have I:(S.read:Int)<(k.ins.length:Int):=Ck;rw[D]at C;generalize k.ins.getD S.read 0=x at *;have t:∀n,Bw k ⟨S.read+1,S.objs,S.now,S.wait,S.ended,S.out,S.status,S.value,S.steps⟩ v ((w.drewN n).setCell (.a k.B 9) (.i ((S.read:Int)+1))):=fun n=>(h.drewN b n).setPre b (j:=9) Ck _ rfl rfl rfl (h.drewN b n).rows;have f:∀n,_:=fun n=>Nb k _ v x _ b (t n);have p:=Bc f;clear h l m t f;go_in;go_wp2;go_quiet (fail);go_wp2;go_quiet (fail);go_wp2_with fail;refine Qm (Ba p _) ?_;intro J s;go_wp2;go_end0;exact⟨rfl,s⟩
 rw[Pk c];have F:decide ((S.read:Int)<(k.ins.length:Int))=false:=by simpa using c
 have G:decide (S.read<k.ins.length)=false:=by simpa using c
 have I:¬(S.read:Int)<(k.ins.length:Int):=Ck;have f:∀z,_:=fun z=>Nb k _ v 0 _ b (h.drewN b z);have p:=Bc f;clear h l m f;go_in;go_wp2;go_quiet (fail);go_wp2_with fail;refine Qm (Ba p _) ?_;intro J s;go_wp2;go_end0;exact⟨rfl,s⟩
def Be3(k:Cw)(S:Bo)(v:Dd)(op:Int)(w:TW)(c:k.Ok)(h:Bw k S v w):Calls prog 189 #[.q k.B 0,.i op] w fun e t=>e=.r (.tuple #[])/\∃g,Bw k (L6 k.E op S) g t:=by
 have p:=Nc k S v w c h;have s:=fun w h=>Nc k S.popped v w c h;have b:=fun w=>Bb4 op S.popped.top S.top w;have A:=fun x w h=>Nb k S.popped.popped v x w c h;have C:=fun w h=>Ht k S.popped.popped v 2 w c h Ck Ck;unfold L6;generalize S.popped.top=x at *;generalize S.top=y at *;clear h;cases f:Ia op x y with
 | none =>
  rw[f]at b;simp only[Option.getD_none,Bvr]at b;clear f;go_in;go_wp2_with fail;refine Qm p ?_;intro D j;go_wp2_with fail;refine Qm (s _ j) ?_;intro F l;go_wp2_with fail;refine Qm (b _) ?_;rintro G rfl;go_wp2_with fail;refine Qm (C _ l) ?_;rintro I ⟨g,m⟩;go_wp2;refine tb (.tuple #[]) (by simp[results,results189,go_sem]) ?_;exact⟨rfl,g,m⟩
 | some z =>
  rw[f]at b;simp only[Bwb,Option.isSome_some]at b;clear f;go_in;go_wp2_with fail;refine Qm p ?_;intro D j;go_wp2_with fail;refine Qm (s _ j) ?_;intro F l;go_wp2_with fail;refine Qm (b _) ?_;rintro G rfl;go_wp2_with fail;refine Qm (A z _ l) ?_;intro I m;go_wp2;go_end0;exact⟨rfl,v,m⟩
def Zv(k:Cw)(S:Bo)(v:Dd)(w:TW)(f:k.Ok)(h:Bw k S v w):Calls prog 195 #[.q k.B 0] w fun e l=>e=.r (.tuple #[])/\∃b,Bw k (Jc k.E S) b l:=by
 have j:=Nc k S v w f h;have m:=fun w h=>Ht k S.popped v 3 w f h Ck Ck;have p:=fun w h=>Zu k S.popped v S.top w f h;unfold Jc;generalize S.top=x at *;clear h;by_cases c:x=0;·rw[Th c];subst c;go_in;go_wp2_with fail;refine Qm j ?_;intro s g;go_wp2_with fail;refine Qm (m _ g) ?_;rintro t ⟨b,i⟩;go_wp2;refine tb (.tuple #[]) (by simp[results,results195,go_sem]) ?_;exact⟨rfl,b,i⟩
 rw[Pk c];have z:(x==0)=false:=by simp[c]
 clear c;go_in;go_wp2_with fail;refine Qm j ?_;intro s g;go_wp2_with fail;refine Qm (p _ g) ?_;rintro t ⟨b,i⟩;go_wp2;go_end0;exact⟨rfl,b,i⟩
def Be6(k:Cw)(S:Bo)(v:Dd)(c:Int)(w:TW)(f:k.Ok)(h:Bw k S v w)(s:S.objs.length<=1000):Calls prog 243 #[.q k.B 0,.i c] w fun e A=>e=.r (.tuple #[])/\∃g,Bw k (L7 k.E c S) g A:=by
 unfold L7;have t:k.E.room=k.room:=rfl;rw[t];clear t;by_cases b:k.room<=(S.objs.length:Int)-5;·rw[Th b];have j:=Bdn k S v c w f h s b;have l:=fun w h=>Ht k S v 5 w f h Ck Ck;clear h b;go_in;go_wp2_with fail;refine Qm j ?_;intro C m;go_wp2_with fail;refine Qm (l _ m) ?_;rintro D ⟨g,p⟩;go_wp2;refine tb (.tuple #[]) (by simp[results,results243,go_sem]) ?_;exact⟨rfl,g,p⟩
 rw[Pk b];have j:=Bm0 k S v c w f h s b;have l:=fun v w h=>Nb k (S.withObjs (S.objs++[(c,[])])) v ((S.objs.length:Int)+1) w f h;clear h b;go_in;go_wp2_with fail;refine Qm j ?_;rintro C ⟨z,m⟩;go_wp2_with fail;refine Qm (l z _ m) ?_;intro D p;go_wp2;go_end0;exact⟨rfl,z,p⟩
def TyR.at2{w s:TW}{l:TX}{q:TP}(h:TyR w l q)(f:∀j,l.ownBlock=some j->s.heap[j]?=w.heap[j]?):TyR s l q:=by
 rcases h with h|⟨g,o,c,i,b,m,p,t,z⟩
 ·exact .inl h
 have e:=f g (by rw[b];rfl);exact .inr ⟨g,o,c,i,b,e.trans m,p,t,fun j x A=>by rw[Brr (a:=⟨g,o+j,none⟩) e];exact z j x A⟩
def TyR.blk_lt{w:TW}{l:TX}{q:TP}(h:TyR w l q){u:Nat}(b:l.ownBlock=some u):u<w.heap.size:=by
 rcases h with ⟨rfl,_⟩|⟨g,o,c,i,e,f,_⟩
 ·simp[Value.ownBlock]at b
 rw[e]at b;simp only[Value.ownBlock,Option.some.injEq]at b;rw[<- b];exact Sp f
def Dq.fldsIn{k:Cw}{A:List (Int×List Int)}{g:List Bi}{z:TI}{v:Dd}{w:TW}(h:Dq k A g z v w)(e:k.Ok):Lx w k.bf (.s k.ya k.lf.length k.yc) k.lf:=by
 obtain⟨a,b⟩:=e.fl;refine⟨Fz a (fun j c=>h.keep j (a.lt j c).2 (e.fB j c).1 (e.fB j c).2),fun p f=>(b p f).at2 (fun j c=>?_)⟩;obtain⟨x,y⟩:=e.fy p f j c;exact h.keep j ((b p f).blk_lt c) x y
def Bc7(n:Int):∀(b:List (List (Int×Int))) (c f:Int),(∀l∈b,l.length<=10)->0<=c->(Dw n b c f).1<=c+b.length/\-1<=(Dw n b c f).1/\0<=(Dw n b c f).2/\(Dw n b c f).2<=10
 | [],c,f,_,hc=>by simp[Dw];omega
 | l::r,c,f,h,hc=>by
  unfold Dw;have i:=h l Hd
  split
  ·rename_i e;obtain⟨j,m⟩:=e;simp only[Br7];omega
  have:=Bc7 n r (c+1) (f+(l.length:Int)) (fun x g=>h x (by simp[g])) Ck;simp only[Br7];omega
def Bal(T:TI)(j m:Nat)(l:List (Value×List (Int×Int)))(z:Nat)(ya:TA)(yc:Nat)(n:Int)(w:TW)(Q:l.length<=14)(V:T.length<=1000)(Y:0<=n/\n<=100000)(t:∀p∈l,p.2.length<=10)(Z:Dy w j T)(hF:Lx w z (.s ya l.length yc) l):Calls prog 281 #[.agg #[.s (.p j) T.length m,.s ya l.length yc],.i n] w fun e b=>e=.r (.i (Il T (l.map Prod.snd) n))/\Bl w b:=by
 have C:=fun b (h:Bl w b)=>Ba1 (aa:=some ⟨j,0,none⟩) (an:=T.length) (ac:=m) l z ya yc n b Ck Y (fun p f=>by have:=t p f;omega) (hF.below h);have D:=fun c b (h:Bl w b)=>Bfy (aa:=some ⟨j,0,none⟩) (an:=T.length) (ac:=m) l z ya yc c b Ck (hF.below h);have F:=fun c b (h:Bl w b)=>Ti T j m l z ya yc c b Q V (fun p f=>by have:=t p f;omega) (Z.below h) (hF.below h);have J:=Bc7 n (l.map Prod.snd) 0 0 (fun x hx=>by obtain⟨p,f,rfl⟩:=List.mem_map.1 hx;exact t p f) Ck;have G:∀c,(Dk T (l.map Prod.snd) c).length<=1000*14:=fun c=>by
  have:=Mm T (l.map Prod.snd) c (fun p f=>by obtain⟨q,hq,rfl⟩:=List.mem_map.1 f;have:=t q hq;omega) (l.map Prod.snd).length;unfold Dk;rw[Br1]at this ⊢;omega
 have I:∀c,(Ln (l.map Prod.snd) c).length<=10:=fun c=>by
  unfold Ln
  split
  ·simp
  rw[Vm];cases hg:(l.map Prod.snd)[c.toNat]? with
  | none=>simp
  | some x =>
   obtain⟨p,f,rfl⟩:=List.mem_map.1 (Bs6 hg);exact t p f
 unfold Il;generalize Dw n (l.map Prod.snd) 0 0=oo at *;obtain⟨g,oi⟩:=oo;simp only at C J ⊢;obtain⟨-,b1,b2,b3⟩:=J;have A:Bl w (w.alloc (O2 (.p j) T.length m ya l.length yc)):=QN _;have a0:=Be w (O2 (.p j) T.length m ya l.length yc);by_cases v:g = -1;·rw[Th v];subst v;clear D F G I;go_in;go_wp2_with fail;refine Qb (C _ A) A ?_;intro w1 K B;go_wp2;go_ret;exact⟨rfl,B⟩
 rw[Pk v];have a5:(g == -1)=false:=by simp[v]
 have a6:=G g;have a7:=I g;have a1:=F g;have a2:=D g;clear v G I F D;generalize Dk T (l.map Prod.snd) g=FA at *;generalize Ln (l.map Prod.snd) g=FO at *;go_in;go_wp2_with fail;refine Qb (C _ A) A ?_;intro w1 K B;have L:=stay K a0;obtain⟨t0,t1⟩:=cl2 L;simp at t0 t1;go_wp2_with fail;refine(a1 _ B).mono ?_;rintro e w2 ⟨xa,xc,rfl,-,N⟩;have O:=QB B N;have C2:=stay N L;obtain⟨u0,u1⟩:=cl2 C2;simp at u0 u1;go_wp2_with fail;refine(a2 _ O).mono ?_;rintro e w3 ⟨za,zc,rfl,-,a3⟩;have a4:=QB O a3;go_wp2;go_ret;exact⟨rfl,a4⟩
def Bj4(k:Cw)(S:Bo)(v:Dd)(m:Int)(w:TW)(g:k.Ok)(h:Bw k S v w):Calls prog 247 #[.q k.B 0,.i m] w fun e L=>e=.r (.tuple #[])/\∃s,Bw k (Oz k.E m S) s L:=by
 have t:=Nc k S v w g h;have p:=fun w h=>Tc k S.popped v S.top w h;have z:=fun w h=>Nb k S.popped v S.top w g h;have j:=fun w h=>Ht k S.popped v 4 w g h Ck Ck;have N:=g.tl;unfold Oz;have F:k.E.T=k.T:=rfl;have G:S.popped.objs=S.objs:=rfl;rw[F];rw[G]at p;generalize S.top=x at *;generalize Ho x S.objs=c at *;have A:=fun w j=>Pb (ya:=k.ya) (yn:=k.lf.length) (yc:=k.yc) k.T k.tg k.tc c m w N j;clear h F G;by_cases l:x=0;·rw[Th l];subst l;clear A j;go_in;go_wp2_with fail;refine Qm t ?_;intro I f;go_wp2_with fail;refine Qm (p _ f) ?_;rintro J rfl;go_wp2_with fail;refine Qm (z _ f) ?_;intro K O;go_wp2;go_end0;exact⟨rfl,v,O⟩
 rw[Pk l];have Z:(x != 0)=true:=by simp[l]
 clear l;generalize Tr.within k.T c m=b at *;cases b with
 | true =>
  rw[Th rfl];clear j;go_in;go_wp2_with fail;refine Qm t ?_;intro I f;go_wp2_with fail;refine Qm (p _ f) ?_;rintro J rfl;have Q:=f.sees.c2;have V:=f.sees.c3;go_wp2_with fail;refine Qm (A _ (f.rows.tree g)) ?_;intro K C;go_wp2_with fail;refine Qm (z _ (f.gr g C)) ?_;intro Y D;go_wp2;go_end0;exact⟨rfl,v,D⟩
 | false =>
  rw[Pk Hd];clear z;go_in;go_wp2_with fail;refine Qm t ?_;intro I f;go_wp2_with fail;refine Qm (p _ f) ?_;rintro J rfl;have Q:=f.sees.c2;have V:=f.sees.c3;go_wp2_with fail;refine Qm (A _ (f.rows.tree g)) ?_;intro K C;go_wp2_with fail;refine Qm (j _ (f.gr g C)) ?_;rintro Y ⟨s,D⟩;go_wp2;refine tb (.tuple #[]) (by simp[results,results247,go_sem]) ?_;exact⟨rfl,s,D⟩
def Bca(k:Cw)(S:Bo)(v:Dd)(n:Int)(w:TW)(b:k.Ok)(h:Bw k S v w)(G:0<=n/\n<=100000):Calls prog 245 #[.q k.B 0,.i n] w fun e I=>e=.r (.tuple #[])/\∃l,Bw k (Ke k.E n S) l I:=by
 have p:=Nc k S v w b h;have g:=fun w h=>Ht k S.popped v 3 w b h Ck Ck;have t:=fun w g hF=>Bal k.T k.tg k.tc k.lf k.bf k.ya k.yc n w b.f14 b.tl G b.ff g hF;have j:=fun s w h=>Bmt k S.popped v S.top s w h;have z:=fun x w h=>Nb k S.popped v x w b h;unfold Ke;have A:Il k.E.T k.E.FL n=Il k.T (k.lf.map Prod.snd) n:=rfl;have C:S.popped.objs=S.objs:=rfl;rw[A];rw[C]at j;generalize S.top=x at *;generalize Il k.T (k.lf.map Prod.snd) n=D at *;clear h A C;by_cases f:x=0;·rw[Th f];subst f;clear t j z;go_in;go_wp2_with fail;refine Qm p ?_;intro J c;go_wp2_with fail;refine Qm (g _ c) ?_;rintro K ⟨l,m⟩;go_wp2;refine tb (.tuple #[]) (by simp[results,results245,go_sem]) ?_;exact⟨rfl,l,m⟩
 rw[Pk f];have N:(x==0)=false:=by simp[f]
 clear f g;have L:=j D;clear j;generalize Ss x D S.objs=y at *;go_in;go_wp2_with fail;refine Qm p ?_;intro J c;have O:=c.sees.c2;have Q:=c.sees.c3;go_wp2_with fail;refine Qm (t _ (c.rows.tree b) (c.rows.fldsIn b)) ?_;intro V F;go_wp2_with fail;refine Qm (L _ (c.gr b F)) ?_;rintro Y rfl;go_wp2_with fail;refine Qm (z _ _ (c.gr b F)) ?_;intro K m;go_wp2;go_end0;exact⟨rfl,v,m⟩
def Bb5(k:Cw)(S:Bo)(v:Dd)(n:Int)(w:TW)(b:k.Ok)(h:Bw k S v w)(F:0<=n/\n<=100000):Calls prog 246 #[.q k.B 0,.i n] w fun e G=>e=.r (.tuple #[])/\∃l,Bw k (Kd k.E n S) l G:=by
 have t:=Nc k S v w b h;have z:=fun w h=>Nc k S.popped v w b h;have g:=fun w h=>Ht k S.popped.popped v 3 w b h Ck Ck;have A:=fun w g hF=>Bal k.T k.tg k.tc k.lf k.bf k.ya k.yc n w b.f14 b.tl F b.ff g hF;have j:=fun s w h=>Bmp k S.popped.popped v S.popped.top s S.top w b h;unfold Kd;have C:Il k.E.T k.E.FL n=Il k.T (k.lf.map Prod.snd) n:=rfl;have D:S.popped.popped.objs=S.objs:=rfl;rw[C];rw[D]at j;generalize S.popped.top=x at *;generalize S.top=y at *;generalize Il k.T (k.lf.map Prod.snd) n=I at *;clear h C D;by_cases f:x=0;·rw[Th f];subst f;clear A j;go_in;go_wp2_with fail;refine Qm t ?_;intro J m;go_wp2_with fail;refine Qm (z _ m) ?_;intro K c;go_wp2_with fail;refine Qm (g _ c) ?_;rintro L ⟨l,p⟩;go_wp2;refine tb (.tuple #[]) (by simp[results,results246,go_sem]) ?_;exact⟨rfl,l,p⟩
 rw[Pk f];have Q:(x==0)=false:=by simp[f]
 clear f g;have N:=j I;clear j;go_in;go_wp2_with fail;refine Qm t ?_;intro J m;go_wp2_with fail;refine Qm (z _ m) ?_;intro K c;have V:=c.sees.c2;have Y:=c.sees.c3;go_wp2_with fail;refine Qm (A _ (c.rows.tree b) (c.rows.fldsIn b)) ?_;intro Z O;go_wp2_with fail;refine Qm (N _ (c.gr b O)) ?_;intro L p;go_wp2;go_end0;exact⟨rfl,v,p⟩
structure Rc(k:Cw)(S:Bo)(v:Dd)(w:World)(g n:Nat)(l:List Int):Prop where
 ints:De w k.w0.heap.size (.slice (some ⟨g,0,none⟩) n n) l
 ne:∀x∈(Value.slice v.xa S.out.length v.xc::v.ov),x.ownBlock≠some g
 nB:g≠k.B
 len:l.length=n
def Wp(k:Cw)(S:Bo)(v:Dd)(f:TA)(n g:Nat)(w:TW)(m:k.Ok)(h:Bw k S v w)(t:n<=1000):Calls prog 248 #[.q k.B 12,.s f n g] w fun e b=>e=.r (.s (.p w.heap.size) n n)/\Rc k S v b w.heap.size n (Ih n S)/\Bw k (Fs n S) v b/\Gr k.B w b:=by
 refine(Be4 S.now f n g k.B 12 156 _ _ w rfl h.wf t h.blk).mono fun e b ⟨z,A,C,j⟩=>⟨z,⟨D6 A h.rows.szs,?_,?_,Sx n S.now⟩,h.now m j (Ax n h.wf) C,j⟩
 ·intro x c l;rcases List.mem_cons.1 c with rfl|c
  ·have:=(h.rows.out.lt _ l).2;omega
  obtain⟨i,D,rfl⟩:=Bvl c;have F:i<S.objs.length:=by have:=h.rows.ovl;omega
  have G:v.ov.getD i (.s none 0 0)=v.ov[i]:=by rw[Vm,Brl D];rfl
  have:=((h.rows.flds i F).lt _ (by rw[G];exact l)).2;omega
 have:=h.blk.lt;omega
def Rc.gr{k:Cw}{S:Bo}{v:Dd}{w s:TW}{u n:Nat}{z:TI}(h:Rc k S v w u n z)(c:Gr k.B w s):Rc k S v s u n z :=
 ⟨Fz h.ints (fun j b=>by
  have:u=j:=by simpa[Value.ownBlock] using b
  exact c.blk (h.ints.lt j b).2 (by rw[<- this];exact h.nB)),h.ne,h.nB,h.len⟩
def Ay(k:Cw)(S:Bo)(v:Dd)(c:Int)(w:TW)(b:k.Ok)(h:Bw k S v w):Calls prog 244 #[.q k.B 0,.i c] w fun e Q=>e=.r (.tuple #[])/\∃z,Bw k (Lq k.E c S) z Q:=by
 have c2:=h.sees.c2;have c3:=h.sees.c3;have hF:=Ti k.T k.tg k.tc k.lf k.bf k.ya k.yc c w b.f14 b.tl (fun p j=>by have:=b.ff p j;omega) (h.rows.tree b) (h.rows.fldsIn b);have a9:(Dk k.T (k.lf.map Prod.snd) c).length<=140:=by
  have:=Mm k.T (k.lf.map Prod.snd) c (fun p j=>by obtain⟨q,A,rfl⟩:=List.mem_map.1 j;have:=b.ff q A;omega);have V:∀d,d<=14->(Ek k.T (k.lf.map Prod.snd) c d).length<=10*d:=by
   intro d hd;clear this
   induction d with
   | zero=>simp[Ek]
   | succ d ih =>
    rw[Ek,Ws];have F:=ih Ck;have l:(if Tr.within k.T c (d:Int)=true then (k.lf.map Prod.snd).getD d [] else []).length<=10:=by
     split
     ·rw[Vm];cases Y:(k.lf.map Prod.snd)[d]? with
      | none=>simp
      | some x =>
       obtain⟨p,j,rfl⟩:=List.mem_map.1 (Bs6 Y);exact b.ff p j
     simp
    omega
  have:=V (k.lf.map Prod.snd).length (by rw[Br1];exact b.f14);unfold Dk;rw[Br1]at this ⊢;have:=b.f14;omega
 unfold Lq;have G:Dk k.E.T k.E.FL c=Dk k.T (k.lf.map Prod.snd) c:=rfl;rw[G];generalize Dk k.T (k.lf.map Prod.snd) c=f at *;have Z:=fun w la lc h=>Wp k S v la f.length lc w b h Ck;have HA:=Bc h;clear h G;generalize a0:Ih f.length S=t at *;have I:(Fs f.length S).popped.objs=S.objs:=rfl;rw[<- I];have eX:(Fs f.length S).out=S.out:=rfl;generalize a1:Fs f.length S=g at *;clear a0 a1 I;generalize J:g.top=r at *;have a2:=Bc J;clear J;have a3:=fun fa fc w h C m=>Bmn k g.popped v r fa fc t w b h C m;go_in;go_wp2_with fail;refine hF.mono ?_;rintro e D ⟨xa,xc,rfl,-,a4⟩;have F:=(Ba HA).gr b a4;go_wp2_with fail;refine Qm (Z _ _ _ F) ?_;rintro w2 ⟨m,l,-⟩;have a5:=Is g.now k.B 12 156 _ _ w2 rfl l.wf l.blk;go_wp2_with fail;refine Qm a5 ?_;rintro K ⟨a6,L⟩;have h3:Bw k g.popped v K:=l.now b L (Fc l.wf) a6;have a7:=m.gr L;have N:=m.len;have C:De K k.w0.heap.size (.s (.p D.heap.size) t.length f.length) t:=by rw[N];exact a7.ints
 have a8:∀q,(Value.slice (.p D.heap.size) t.length f.length).ownBlock=some q->∀x∈(Value.slice v.xa g.popped.out.length v.xc::v.ov),x.ownBlock≠some q:=fun q A x hx=>by
  have:D.heap.size=q:=by simpa[Value.ownBlock] using A
  rw[<- this];exact m.ne x (by rw[<- eX];exact hx)
 have O:=a3 _ _ _ h3 C a8;rw[N]at O;have e5:(Bv g.now).1=r:=Ba a2;rw[e5];go_wp2_with fail;refine Qm O ?_;rintro w4 ⟨z,h4⟩;go_wp2;go_end0;exact⟨rfl,z,h4⟩
def Bcb(k:Cw)(S:Bo)(v:Dd)(w:TW)(h:Bw k S v w)(b:S.wait=[]):Calls prog 252 #[.q k.B 0] w fun e f=>e=.r (.bool false)/\f=w:=by
 have c:=h.sees.c32;rw[b]at c;simp at c;clear b;go_in;go_wp2;go_ret;exact⟨rfl,rfl⟩
def Bb9(k:Cw)(S:Bo)(v:Dd)(w:TW)(l:k.Ok)(h:Bw k S v w):Calls prog 194 #[.q k.B 0] w fun e w'=>e=.r (.tuple #[])/\∃v',Bw k (Jq k.E S) v' w':=by
 have hm:=N8 k S v S.now.meth w l h;have b3:=h.sees.c12;have HP:Hid (∀w,Bw k S v w->Calls prog 240 #[.q k.B 12] w fun e w'=>e=.r (.i S.top)/\Bw k S.popped v w'/\Gr k.B w w'):=fun w h =>
  (Is S.now k.B 12 156 _ _ w rfl h.wf h.blk).mono fun e w' ⟨he,j,hg⟩=>⟨he,h.now l hg (Fc h.wf) j,hg⟩
 have HA:=Bc h;unfold Jq;generalize k.E.meth S.now.meth=M at *;have a8:=fun S w h z=>Bcb k S v w h z;have a9:=fun S W c w h z=>Wo k S v W c w l h z;have hF:=fun S x w h=>Yv k S v 0 x w l h;have hU:=fun S x w h=>Nb k S v x w l h;have C:=Bc hm;have a4:=Bc a8;have b0:=Bc a9;have HF:=Bc hF;have HU:=Bc hU;clear hm h a8 a9 hF hU;have ew:S.popped.wait=S.wait:=rfl;by_cases D:M.result.1=0
 ·rw[Th D];unfold Kf;cases z:S.wait.getLast? with
  | none =>
   have F:S.wait=[]:=by simpa using z
   simp only;have e:(if M.result.1=1 then (0:Int) else 0)=0:=by split<;>rfl
   rw[e];clear e z;go_in;go_wp2_with fail;refine(Ba C).mono ?_;rintro e p ⟨m,rfl,j,t⟩;have f:=j.r1;have g:=(Ba HA).gr l t;obtain⟨I,J,K,L,N,A,b,O,Q,V,Y,Z,md,me,mf,mg,mh,mi⟩:=m;simp only at f;rw[D]at f;subst f;simp only[PM.val];have a2:∀w:TW,(Instr.field 133 (.agg #[.i I,.i J,.s K L N,.i 0,.i b,.i O,.i Q,.s V Y Z,.s md me mf,.s mg mh mi]) 3).run prog w=.ok (.agg #[.i 0,.i b]) w:=fun _=>Lt;have G:=g.gr l (QN (O7 0 b));have hK:=Be p (O7 0 b);have a0:p.heap.size≠k.B:=by have:=g.blk.lt;omega
   clear j t g C;have y0:=Bb hK 0;simp at y0;go_wp2_with fail;refine Qm (Ba a4 _ _ G F) ?_;rintro w3 rfl;go_wp2_with fail;refine Qm (Ba HF _ _ _ G) ?_;intro w4 h4;go_wp2;go_end0;exact⟨rfl,v,h4⟩
  | some c =>
   have F:S.wait=S.wait.dropLast++[c]:=by
    obtain⟨ys,e⟩:=List.getLast?_eq_some_iff.1 z;rw[e];simp
   simp only;rw[Th D];generalize S.wait.dropLast=W at *;have a5:=Bc F;clear z F;go_in;go_wp2_with fail;refine(Ba C).mono ?_;rintro e p ⟨m,rfl,j,t⟩;have f:=j.r1;have g:=(Ba HA).gr l t;obtain⟨I,J,K,L,N,A,b,O,Q,V,Y,Z,md,me,mf,mg,mh,mi⟩:=m;simp only at f;rw[D]at f;subst f;simp only[PM.val];have a2:∀w:TW,(Instr.field 133 (.agg #[.i I,.i J,.s K L N,.i 0,.i b,.i O,.i Q,.s V Y Z,.s md me mf,.s mg mh mi]) 3).run prog w=.ok (.agg #[.i 0,.i b]) w:=fun _=>Lt;have G:=g.gr l (QN (O7 0 b));have hK:=Be p (O7 0 b);have a0:p.heap.size≠k.B:=by have:=g.blk.lt;omega
   clear j t g C;go_wp2_with fail;refine Qm (Ba b0 _ _ _ _ G (Ba a5)) ?_;intro w3 h3;go_wp2;go_end0;exact⟨rfl,v,h3⟩
 rw[Pk D];have a6:(M.result.1 != 0)=true:=by simpa using D
 unfold Kf;rw[ew];cases z:S.wait.getLast? with
 | none =>
  have F:S.popped.wait=[]:=by rw[ew];simpa using z
  simp only;clear z;by_cases a1:M.result.1=1
  ·rw[Th a1];have b1:=Bc a1;clear D a1;go_in;go_wp2_with fail;refine(Ba C).mono ?_;rintro e p ⟨m,rfl,j,t⟩;have f:=j.r1;have g:=(Ba HA).gr l t;obtain⟨I,J,K,L,N,A,b,O,Q,V,Y,Z,md,me,mf,mg,mh,mi⟩:=m;simp only at f;rw[Ba b1]at f a6;subst f;simp only[PM.val];have a2:∀w:TW,(Instr.field 133 (.agg #[.i I,.i J,.s K L N,.i 1,.i b,.i O,.i Q,.s V Y Z,.s md me mf,.s mg mh mi]) 3).run prog w=.ok (.agg #[.i 1,.i b]) w:=fun _=>Lt;have G:=g.gr l (QN (O7 1 b));have hK:=Be p (O7 1 b);have a0:p.heap.size≠k.B:=by have:=g.blk.lt;omega
   clear j t g C;go_wp2_with fail;refine Qm (Ba HP _ G) ?_;rintro w3 ⟨h3,a3⟩;have a7:=a3.own hK a0;have y0:=Bb a7 0;simp at y0;go_wp2_with fail;refine Qm (Ba a4 _ _ h3 F) ?_;rintro w4 rfl;go_wp2_with fail;refine Qm (Ba HF _ _ _ h3) ?_;intro w5 h5;go_wp2;go_end0;exact⟨rfl,v,h5⟩
  rw[Pk a1];have b2:(M.result.1==1)=false:=by simpa using a1
  clear D a1;go_in;go_wp2_with fail;refine(Ba C).mono ?_;rintro e p ⟨m,rfl,j,t⟩;have f:=j.r1;have g:=(Ba HA).gr l t;obtain⟨I,J,K,L,N,A,b,O,Q,V,Y,Z,md,me,mf,mg,mh,mi⟩:=m;simp only at f;rw[<- f]at a6 b2;clear f;simp only[PM.val];have a2:∀w:TW,(Instr.field 133 (.agg #[.i I,.i J,.s K L N,.i A,.i b,.i O,.i Q,.s V Y Z,.s md me mf,.s mg mh mi]) 3).run prog w=.ok (.agg #[.i A,.i b]) w:=fun _=>Lt;have G:=g.gr l (QN (O7 A b));have hK:=Be p (O7 A b);have a0:p.heap.size≠k.B:=by have:=g.blk.lt;omega
  clear j t g C;go_wp2_with fail;refine Qm (Ba HP _ G) ?_;rintro w3 ⟨h3,a3⟩;have a7:=a3.own hK a0;have y0:=Bb a7 0;simp at y0;go_wp2_with fail;refine Qm (Ba a4 _ _ h3 F) ?_;rintro w4 rfl;go_wp2_with fail;refine Qm (Ba HF _ _ _ h3) ?_;intro w5 h5;go_wp2;go_end0;exact⟨rfl,v,h5⟩
 | some c =>
  have F:S.popped.wait=S.wait.dropLast++[c]:=by
   obtain⟨ys,e⟩:=List.getLast?_eq_some_iff.1 z;rw[ew,e];simp
  simp only;rw[Pk D];generalize S.wait.dropLast=W at *;have a5:=Bc F;clear z F D;go_in;go_wp2_with fail;refine(Ba C).mono ?_;rintro e p ⟨m,rfl,j,t⟩;have f:=j.r1;have g:=(Ba HA).gr l t;obtain⟨I,J,K,L,N,A,b,O,Q,V,Y,Z,md,me,mf,mg,mh,mi⟩:=m;simp only at f;rw[<- f]at a6;clear f;simp only[PM.val];have a2:∀w:TW,(Instr.field 133 (.agg #[.i I,.i J,.s K L N,.i A,.i b,.i O,.i Q,.s V Y Z,.s md me mf,.s mg mh mi]) 3).run prog w=.ok (.agg #[.i A,.i b]) w:=fun _=>Lt;have G:=g.gr l (QN (O7 A b));have hK:=Be p (O7 A b);have a0:p.heap.size≠k.B:=by have:=g.blk.lt;omega
  clear j t g C;go_wp2_with fail;refine Qm (Ba HP _ G) ?_;rintro w3 ⟨h3,a3⟩;go_wp2_with fail;refine Qm (Ba b0 _ _ _ _ h3 (Ba a5)) ?_;intro w4 h4;go_wp2_with fail;refine Qm (Ba HU _ S.top _ h4) ?_;intro w5 h5;go_wp2;go_end0;exact⟨rfl,v,h5⟩
def Tryz.infoCall3:(prog.info? 152).map (fun i=>(i.zero,i.size,i.bytes))=some (some (.agg #[.i 0,.i 0,.i 0,.i 0,.i 0,.i 0,.i 0,.i 0,.i 0,.i 0,.i 0,.i 0,.i 0,.i 0,.i 0,.i 0,.i 0,.i 0,.i 0,.i 0]),20,160):=Lt
def Bms(b c e f g h i j l m q t v z A B C D F G:TX)(w:TW):(Instr.buildSlice 154 1 #[(0,.agg #[b,c,e,f,g,h,i,j,l,m,q,t,v,z,A,B,C,D,F,G])]).run prog w=.ok (.s (.p w.heap.size) 1 1) (w.alloc (.cells #[b,c,e,f,g,h,i,j,l,m,q,t,v,z,A,B,C,D,F,G] 152)):=Lt
def Bre(c:Array Value)(h:c.size=20):∃b e f g i j m p q s t v z A B C D F G I,c = #[b,e,f,g,i,j,m,p,q,s,t,v,z,A,B,C,D,F,G,I]:=by
 obtain⟨l⟩:=c;have J:l.length=20:=h
 match l,J with
 | [b,e,f,g,i,j,m,p,q,s,t,v,z,A,B,C,D,F,G,I],_=>exact⟨b,e,f,g,i,j,m,p,q,s,t,v,z,A,B,C,D,F,G,I,rfl⟩
def Bj3(c:Array Value)(h:c.size=20)(w:TW):(Instr.buildSlice 154 1 #[(0,.agg c)]).run prog w=.ok (.s (.p w.heap.size) 1 1) (w.alloc (.cells c 152)):=by
 obtain⟨b,e,f,g,i,j,l,m,q,t,v,z,A,B,C,D,F,G,I,J,rfl⟩:=Bre c h;exact Bms _ _ _ _ _ _ _ _ _ _ _ _ _ _ _ _ _ _ _ _ w
def Baq{w:TW}{u:Nat}{e:TV}{j:TypeId}(f:w.heap[u]?=some (.cells e.toArray j (0,0))):∀b c,e[b]?=some c->w.cell? ((⟨u,0,none⟩:Addr).add b)=some c:=fun b c h=>by
 rw[Addr.add_mid,Brz,Bb f];simpa using h
def Xn{b:Array Oper}{o:Oper}{a:Act}{w:TW}{K:Act->TW->Prop}{Q:Exit->Act->TW->Prop}{E:Prop}(e:o.guard=none)(x:Operand)(f:o.op=.buildSlice 154 1 #[(0,x)]) (c:Array Value)(g:c.size=20)(i:a.eval x=.agg c)(h:K (a.put o.dst (.s (.p w.heap.size) 1 1)) (w.alloc (.cells c 152))):if Region.wanted o (yielded b a.tmps)=true then Oper.wp prog o a w K Q else E:=by
 have j:Region.wanted o (yielded b a.tmps)=true:=by simp[Region.wanted,e]
 rw[Th j];have l:=Bj3 c g w;unfold Oper.wp execOp;simp only[f,List.map_toArray,Bsw,Buu,i,Bw4,l,Bv2,Bw5];exact h
def Dq.addW{k:Cw}{A:List (Int×List Int)}{W:List Bi}{z:TI}{v:Dd}{w m:TW}(h:Dq k A W z v w)(J:k.Ok){e:TV}(K:w.heap[k.B]?=some (.cells e.toArray 156 (0,0))){c:Bi}(D:Dz c){g:TA}{wc:Nat} (Q:m.ownsRow k.w0.heap.size 152 20 (.s g (W.length+1) wc) (W.length+1) (W.flatMap Bi.cells++c.cells))(j:w.grownBy m (Value.slice v.wa W.length v.wc).ownBlock):Dq k A (W++[c]) z ⟨v.oa,v.oc,g,wc,v.xa,v.xc,v.ov⟩ m/\m.heap[k.B]?=w.heap[k.B]?:=by
 have C:=h.wait;have V:∀f,(Value.slice v.wa W.length v.wc).ownBlock=some f->∃e:TV,w.heap[f]?=some (.cells e.toArray 152 (0,0)):=fun f p=>by
  obtain⟨_,⟨F,_⟩|⟨g',a1,Y,F,_,j,_⟩⟩:=C
  ·rw[F]at p;simp[Value.ownBlock]at p
  rw[F]at p;simp only[Value.ownBlock,Option.some.injEq]at p;subst p;exact⟨Y.toList,by simpa using j⟩
 have G:∀{b i L n:Nat}{x:TX}{N:TV},w.ownsRow b i L x n N->i≠152->m.ownsRow b i L x n N:=fun I Z=>Fz I (fun q l=>j.block q (I.lt q l).2 (fun i=>by
  obtain⟨e,D⟩:=V q i.symm;exact Fl I D Z q l rfl))
 have a2:=J.Bs;have a0:m.heap[k.B]?=w.heap[k.B]?:=j.block k.B (Sp K) (fun i=>Fl C K Fm k.B i.symm rfl);refine⟨⟨G h.objs Fm,h.ovl,h.obk,fun q l=>G (h.flds q l) Fm,?_,fun x t=>?_,G h.out Fm,h.nd,fun q O h2 h3=>?_,?_,Br5 h.szs j.size⟩,a0⟩
 ·rw[Ws,Bs8,Bst];simpa using Q
 ·rcases List.mem_append.1 t with t|t
  ·exact h.wwf x t
  rw[List.mem_singleton.1 t];exact D
 ·rw[j.block q (Brs O h.szs) (fun i=>by have:=(C.lt q i.symm).1;omega)];exact h.keep q O h2 h3
 exact⟨j.os.trans h.low.os,j.tape.trans h.low.tape,j.output.trans h.low.output,Br5 h.low.size j.size,
  fun q l=>(j.block q (Brs l h.low.size) (fun i=>by have:=(C.lt q i.symm).1;have:=J.sz;omega)).trans (h.low.block q l)⟩
def Bb6(k:Cw)(S:Bo)(v:Dd)(m:Int)(x:TX)(w:TW)(f:k.Ok)(h:Bw k S v w)(j:∃a n c,x=.s a n c)(z:S.wait.length<=1000)(A:k.depth<=(S.wait.length:Int)+1):Calls prog 249 #[.q k.B 0,.i m,x] w fun e l=>e=.r (.tuple #[])/\∃b,Bw k (Fd k.E 6 S) b l:=by
 obtain⟨C,D,F,rfl⟩:=j;have G:=h.sees.c32;have I:=h.sees.c7;have g:∀n,_:=fun n=>Ht k S v 6 _ f (h.drewN f n) Ck Ck;have p:=Bc g;clear h g;go_in;go_wp2;go_quiet (fail);go_wp2_with fail;refine Qm (Ba p _) ?_;rintro J ⟨b,t⟩;go_wp2;refine tb (.tuple #[]) (by simp[results,results249,go_sem]) ?_;exact⟨rfl,b,t⟩
def Bb7(k:Cw)(S:Bo)(v:Dd)(m:Int)(l:TA)(p I:Nat)(c:TI)(w:TW)(A:k.Ok)(h:Bw k S v w)(O:De w I (.s l c.length p) c)(c0:c.length<=1000)(a6:∀j,(Value.slice l c.length p).ownBlock=some j->j≠k.B/\(Value.slice v.wa S.wait.length v.wc).ownBlock≠some j)(hw:S.wait.length<=1000)(hd:¬k.depth<=(S.wait.length:Int)+1):Calls prog 249 #[.q k.B 0,.i m,.s l c.length p] w fun e Z=>e=.r (.tuple #[])/\∃v',Bw k (S.opened (Cn m c)) v' Z:=by
 have c1:=h.sees.c32;have c7:=h.sees.c7;obtain⟨i0,hi,c2,c3,c4⟩:=Bsa Tryz.infoCall3;have D:=h.wf;have a0:S.now.cells.toArray.size=20:=by simp[D.len]
 have c5:(prog.info? 152).map (·.size)=some S.now.cells.length:=by rw[Tryz.infoCall];simp[D.len]
 have d5:=fun w=>Bj3 S.now.cells.toArray a0 w;have HA:Hid (∀n,Bw k S v (w.drewN n)):=fun n=>h.drewN A n;have HX:=Bc O;have a7:=Bc a6;have a8:=fun w O=>Xw m l p c I w c0 O;have a9:=Bc a8;clear h O a6 a8;go_in;go_wp2;go_quiet (fail);rename_i nq;have t:=Ba HA nq;have F:(w.drewN nq).rangeAt k.B 12 S.now.cells:=t.blk.range rfl;have c6:=t.sees.c32;have a1:=t.rows.wait;have Q:Hid (De (w.drewN nq) I (.s l c.length p) c):=Ba HX;have H1:=Bc t;have d6:=t.rows.szs;have d7:=t.blk.lt;clear HX HA t c1 c7;generalize w.drewN nq=wd at *;go_wp2;refine Br4 (S:=(fun Z=>Z.rangeAt k.B 12 S.now.cells)) Lt F (fun b=>?_);refine tq 0 (.q k.B 0) b ?_;refine tq 1 (.q k.B 0) b ?_;refine tq 2 (.q k.B 0) b ?_;refine tq 3 (.q k.B 32) b ?_;refine tq 5 (.q k.B 0) b ?_;refine tq 6 (.q k.B 0) b ?_;refine tq 7 (.q k.B 12) b ?_;refine Bun (i:=8) (oi:=⟨_,_,_,_,_,_⟩) (v:=.agg S.now.cells.toArray) rfl Lt Lt Lt (fun _ _ _ h=>h) (yieldsIf_load_mid Ls 152 (.tmp 27) Ls k.B 12 Ls S.now.cells _ (fun _ hS=>hS) Bu4 Ls c5) b ?_
 try simp only[QX]
 refine Brv (rs:=[4,9]) Lt Hd ?_;refine Bri (o:=⟨_,_,_,_,_,_⟩) rfl (fun K f=>?_) (Bri (o:=⟨_,_,_,_,_,_⟩) rfl (fun K f=>?_) Bro);go_simp;clear b;refine f.out _ _ F (fun b=>?_);clear f K
 try simp only[QX]
 refine tr 9 fun K f=>?_;refine Xn Ls _ Ls S.now.cells.toArray a0 Ls ?_;clear b;refine f.out _ _ (Bvm F _) (fun b=>?_);clear f K
 try simp only[QX]
 rotate_left
 refine Xn Ls _ Ls S.now.cells.toArray a0 Ls ?_;clear b;refine f.out _ _ (Bvm F _) (fun b=>?_);clear f K
 try simp only[QX]
 refine tr 4 fun K f=>?_;go_simp;clear b;refine f.out _ _ (Bvm F _) (fun b=>?_);clear f K
 try simp only[QX]
 all_goals
  refine tr 10 fun K f=>?_;refine Jr Ls _ _ _ Ls k.w0.heap.size 152 i0 _ 20 160 underlying154 hi c2 c3 c4 rfl Ck _ _ _ Ls (Fz a1 (fun j z=>Br2 _ _ _ (a1.lt j z).2)) ⟨wd.heap.size,0,none⟩ 1 1 S.now.cells Ls (by simp[D.len]) (Baq (Be wd.drew (.cells S.now.cells.toArray 152))) (Nl S.now) Pf Ck Fr ?_;intro v' g a2 a3 c8;obtain⟨J,L,rfl⟩:=Bh a2;have b0:Bl wd (wd.drew.alloc (.cells S.now.cells.toArray 152)):=(Brm _ _).drew.alloc (Bru _) _;have V:=(Ba H1).gr A b0;obtain⟨b1,b2⟩:=V.rows.addW A V.blk D a2 a3;have N:=(show Mid g k.B 156 _ _ _ from b2.trans V.blk);have b3:g.rangeAt k.B 12 S.now.cells:=N.range rfl;have z0:=N.tail.cell (o:=32) (j:=0) (by rw[Ws,Ij,D.len]) (by rw[Lc];omega);have zf:=N.free 32;have d8:g.C k.B 32 (.s v.wa S.wait.length v.wc):=z0;have b4:De g I (.s l c.length p) c:=Fz (Ba Q) (fun j z=>(a3.block j (by have:=((Ba Q).lt j z).2;simp;omega) (fun e=>(Ba a7 j z).2 e.symm)).trans (Br2 _ _ _ ((Ba Q).lt j z).2));have a4:Bw k ⟨S.read,S.objs,S.now,S.wait++[S.now],S.ended,S.out,S.status,S.value,S.steps⟩ ⟨v.oa,v.oc,J,L,v.xa,v.xc,v.ov⟩ (g.setCell (.a k.B 32) (.s J (S.wait.length+1) L)):=Sj (j:=0) N (Ij _ _ _ _) (Lc _ _ _ _ _ _ _) D A Ck _ rfl rfl (by simp[Gy]) b1;have b5:De (g.setCell (.a k.B 32) (.s J (S.wait.length+1) L)) I (.s l c.length p) c:=Fz b4 (fun j z=>Brk _ _ _ _ (by simpa using (Ba a7 j z).1));have b6:=Bc a4;have b7:=Bc b5;have b8:(g.setCell (.a k.B 32) (.s J (S.wait.length+1) L)).rangeAt k.B 12 S.now.cells:=a4.blk.range rfl;clear a2 a3 c8 b0 V b1 b2 N z0 b4 a4 b5 b;refine f.out _ _ b3 (fun b=>?_);clear f K
  try simp only[QX]
  refine tq 11 (.q k.B 0) b ?_;refine tq 12 (.q k.B 32) b ?_;refine tr 13 fun K f=>?_;go_simp;clear b;refine f.out _ _ b8 (fun b=>?_);clear f K
  try simp only[QX]
  refine Bsg Lt ?_ _;clear F b3 b8 c6 a1 H1 Q;generalize c9:g.setCell (.a k.B 32) (.s J (S.wait.length+1) L)=w3 at *;clear c9;go_wp2_with fail;refine Qm (Ba a9 _ (Ba b7)) ?_;intro w4 d0;have G:=(Ba b6).gr A d0;have Y:=Ph m c;have d1:w4.there k.B 12 (Cn m c).cells.toArray.size:=G.blk.there (o:=12) rfl (by rw[G.wf.len];simp[Y.len]);have d2:(prog.info? 152).map (·.size)=some (Cn m c).cells.toArray.size:=by rw[Tryz.infoCall];simp[Y.len]
  have d3:=Bui (Nl (Cn m c));have a5:=Pe (Cn m c).cells _ _ _ w4 (by rw[G.wf.len,Y.len]) G.blk;rw[Ij]at a5;have b9:=G.now A (Rk k.B (Cn m c).cells 12 w4) Y a5;have d4:=Bc b9;clear b9 a5 G b6 b7 a9;go_wp2_with (refine wpList_store_mid Ls 152 (.tmp 38) (.tmp 36) Ls k.B 12 (Cn m c).cells.toArray Ls Ls d1 d2 d3 ?_)
  go_end0;exact⟨rfl,_,Ba d4⟩
def Cw.Ok.pm{k:Cw}(c:k.Ok)(n:Int):(k.E.meth n).params.length<=10:=by
 unfold Dn.meth
 split
 ·simp[Ef]
 split
 ·simp[Ef]
 rename_i f g;have h:k.E.ms.length=k.lms.length:=by simp[Cw.E]
 have b:n.toNat<k.lms.length:=Ck;have e:k.E.ms.getD n.toNat Ef=k.lms[n.toNat].1:=by
  rw[Vm];simp[Cw.E,b]
 rw[e];exact c.ps _ (Brn b)
def Ba5(k:Cw)(S:Bo)(v:Dd)(m:Int)(g:TA)(l:Nat)(b:TI)(w:TW)(z:k.Ok)(h:Bw k S v w)(p:De w k.w0.heap.size (.s g b.length l) b)(F:b.length<=1000)(A:S.wait.length<=1000):Calls prog 249 #[.q k.B 0,.i m,.s g b.length l] w fun e G=>e=.r (.tuple #[])/\∃I,Bw k (Hj k.E m b S) I G:=by
 unfold Hj;have J:k.E.depth=k.depth:=rfl;rw[J];by_cases f:k.depth<=(S.wait.length:Int)+1;·rw[Th f];exact Bb6 k S v m _ w z h ⟨_,_,_,rfl⟩ A f
 rw[Pk f];refine Bb7 k S v m g l _ b w z h p F (fun j C=>⟨Fl p h.blk Fm j C,fun c=>?_⟩) A f;obtain⟨_,⟨t,_⟩|⟨D,O,K,t,_,L,_⟩⟩:=h.rows.wait
 ·rw[t]at c;simp[Value.ownBlock]at c
 rw[t]at c;simp only[Value.ownBlock,Option.some.injEq]at c;subst c;have N:w.heap[D]?=some (.cells K.toList.toArray 152 (0,0)):=by simpa using L
 exact Fl p N Fm D C rfl
def Bj5(k:Cw)(S:Bo)(v:Dd)(n:Int)(w:TW)(c:k.Ok)(h:Bw k S v w)(hw:S.wait.length<=1000):Calls prog 192 #[.q k.B 0,.i n] w fun e b=>e=.r (.tuple #[])/\∃f,Bw k (Su k.E n S) f b:=by
 have hm:=N8 k S v n w c h;have a7:=c.pm n;unfold Su;generalize k.E.meth n=M at *;have HO:Hid (∀w l t,Bw k (Fs M.params.length S) v w->De w k.w0.heap.size (.s l M.params.length t) (Ih M.params.length S)->Calls prog 249 #[.q k.B 0,.i n,.s l M.params.length t] w fun e b=>e=.r (.tuple #[])/\∃f,Bw k (Hj k.E n (Ih M.params.length S) (Fs M.params.length S)) f b):=by
  intro w l t h hx;have hl:(Ih M.params.length S).length=M.params.length:=Sx _ _;have:=Ba5 k (Fs M.params.length S) v n l t (Ih M.params.length S) w c h (by rw[hl];exact hx) Ck hw;rw[hl]at this;exact this
 have a2:Hid (∀w A D,Bw k S v w->Calls prog 248 #[.q k.B 12,.s A M.params.length D] w fun e b=>e=.r (.s (.p w.heap.size) M.params.length M.params.length)/\Rc k S v b w.heap.size M.params.length (Ih M.params.length S)/\Bw k (Fs M.params.length S) v b/\Gr k.B w b):=by
  intro w A D h;exact Wp k S v A M.params.length D w c h Ck
 have HA:=Bc h;have HM:=Bc hm;have a8:=h.blk.lt;clear h hm;go_in;go_wp2_with fail;refine(Ba HM).mono ?_;rintro e z ⟨m,rfl,hM,a0⟩;have F:=(Ba HA).gr c a0;have a1:=hM.pl;obtain⟨G,I,g,m4,j,J,K,L,N,O,Q,V,Y,Z,mf,mg,mh,mi⟩:=m;simp only at a1;subst a1;simp only[PM.val];have h2:=F.gr c (QN (O18 G I g M.params.length j J K L N O Q V Y Z mf mg mh mi));have CQ:=Be z (O18 G I g M.params.length j J K L N O Q V Y Z mf mg mh mi);have a3:z.heap.size≠k.B:=by have:=F.blk.lt;omega
 have q2:=(Bb CQ 2).trans (show _=some (.s g M.params.length j) from rfl);have H2:=Bc h2;clear HM hM a0 F h2 HA;go_wp2;generalize z.alloc (O18 G I g M.params.length j J K L N O Q V Y Z mf mg mh mi)=wA at *
 go_region_held3 (fun b=>b.C z.heap.size 2 (.s g M.params.length j))
  (first|exact q2|exact(Bb (a4.own (show wA.drew.heap[_]?=_ from CQ) a3) 2).trans rfl)
  (first|(go_at_call 248;refine(Ba a2 _ _ _ ((Ba H2).drew c)).mono ?_;rintro e w7 ⟨rfl,a5,a6,a4⟩))
 clear q2 CQ;go_wp2_with fail;refine Qm (Ba HO _ _ _ a6 a5.ints) ?_;rintro w8 ⟨f,h8⟩;go_wp2;go_end0;exact⟨rfl,f,h8⟩
def Bdk(k:Cw)(S:Bo)(v:Dd)(j t:Int)(w:TW)(ok:k.Ok)(h:Bw k S v w):Calls prog 251 #[.q k.B 0,.i j,.i t] w fun e L=>e=.r (.i (k.E.nearest j t))/\Bl w L:=by
 have c1:=h.sees.c1;have c2:=h.sees.c2;have c3:=h.sees.c3;have hT:=h.rows.tree ok;have a3:=h.blk.lt;have b2:=ok.tl;have c0:=ok.ml;have b3:=Bc (h.rows.mths ok);have eE:k.E.nearest j t=Gp k.T j t (k.lms.map Prod.fst) 0 0 0:=rfl;rw[eE];generalize c:Gp k.T j t (k.lms.map Prod.fst) 0 0 0=r;have F:Hid (Gp k.T j t ((k.lms.map Prod.fst).drop 0) ((0:Nat):Int) 0 0=r):=c;generalize k.ma=MA at *;clear h c eE;go_in;go_wp2
 go_loopw [7,8,17] (fun fv hv iv wr=>∃(q:Nat) (f z:Int),q<=k.lms.length/\fv=.i f/\hv=.i z/\iv=.i (q:Int)/\Hid (Gp k.T j t ((k.lms.map Prod.fst).drop q) (q:Int) f z=r)/\Bl w wr)
  (fun _ _ i _=>k.lms.length-(intOf i).toNat)
 case atStart=>exact⟨0,0,0,Ck,rfl,rfl,rfl,F,Brm _ _⟩
 case round=>
  clear F;obtain⟨q,f,z,hq,rfl,rfl,rfl,F,G⟩:=hrel;have a5:=G.size;by_cases a6:q<k.lms.length
  ·have a7:=Ba b3;have a8:=a7.kp (Kp.of_below (e:=none) G) Fm Fm Fm Fm Fm;obtain⟨m,g,hg,c4,Ev,hM⟩:=a8.mth a6;obtain⟨y0,y1,y2,y3,y4,y5,y6,y7,y8,y9⟩:=T5 Ev;have a9:=hM.cl;have b0:=hM.nm;have hd:(k.lms.map Prod.fst).drop q=k.lms[q].1::(k.lms.map Prod.fst).drop (q+1):=by rw[Brj (by simpa using a6)];simp
   have c:=Ba F;rw[hd,Gp,<- a9,<- b0]at c;obtain⟨l,A,m3,m4,m5,m6,m7,m8,m9,ma,mb,mc,md,me,mf,mg,mh,mi⟩:=m;simp only at y0 y1 y2 y3 y4 y5 y6 y7 y8 y9 c;have d2:=(G.cell (p:=.a k.B 2) a3).trans c2;have d3:=(G.cell (p:=.a k.B 3) a3).trans c3;have a4:k.B<wr.heap.size:=Brs a3 a5;have b1:=hT.below G;have a1:=fun w hT=>Pb (ya:=k.ya) (yn:=k.lf.length) (yc:=k.yc) k.T k.tg k.tc j l w b2 hT;have qb:(q:Int)<(k.lms.length:Int):=Ck;have N:Bl wr (wr.alloc (O18 l A m3 m4 m5 m6 m7 m8 m9 ma mb mc md me mf mg mh mi)):=QN _;have CH:=Be wr (O18 l A m3 m4 m5 m6 m7 m8 m9 ma mb mc md me mf mg mh mi);have lH:=Sp CH;have I:=(Bb CH 0).trans (show _=some (.i l) from rfl);have O:=(Bb CH 1).trans (show _=some (.i A) from rfl);have Q:=(N.cell (p:=.a k.B 2) a4).trans d2;have V:=(N.cell (p:=.a k.B 3) a4).trans d3;have b4:=b1.below N;have lB:k.B<(wr.alloc (O18 l A m3 m4 m5 m6 m7 m8 m9 ma mb mc md me mf mg mh mi)).heap.size:=Brs a4 N.size;have a2:Hid (Bl w (wr.alloc (O18 l A m3 m4 m5 m6 m7 m8 m9 ma mb mc md me mf mg mh mi))):=G.trans (N.mono a5);subst hg;generalize b5:Tr.within k.T j l=WI at *;clear Ev hd F a7 a8 hM b5 a9 b0 N d2 d3 b1;obtain⟨a,b6⟩:∃a,(A==t)=a:=⟨_,rfl⟩;obtain⟨Y,b7⟩:∃Y,decide (z<=l)=Y:=⟨_,rfl⟩;rw[b6,b7]at c;have D:=Bc (fun (_:Unit)=>c);clear c;go_wp2;generalize (wr.alloc (O18 l A m3 m4 m5 m6 m7 m8 m9 ma mb mc md me mf mg mh mi))=wA at *;refine Br4 (S:=(fun L=>L.C wr.heap.size 0 (.i l)/\L.C wr.heap.size 1 (.i A)/\L.C k.B 2 (.s (.p k.tg) k.T.length k.tc)/\L.C k.B 3 (.s k.ya k.lf.length k.yc))) Lt ⟨I,O,Q,V⟩ (fun b=>?_);refine tq 0 (.q wr.heap.size 1) b ?_;refine tq 1 (.i A) b ?_;refine tq 2 (.i t) b ?_;refine tq 3 (.bool a) b ?_;refine tq 4 (.bool a) b ?_;have c:=Ba D ();clear D;cases a with
   | false =>
    rw[Bt6,Pk Hd]at c;have J:Hid (Gp k.T j t ((k.lms.map Prod.fst).drop (q+1)) ((q+1:Nat):Int) f z=r):=c;clear c a1;refine tn 5 undef b ?_;refine tn 6 undef b ?_;refine tn 7 undef b ?_;refine tn 8 undef b ?_;refine tq 9 (.bool false) b ?_;refine tq 10 (.bool false) b ?_;refine tn 11 undef b ?_;refine tn 12 undef b ?_;refine tn 13 undef b ?_;refine tn 14 undef b ?_;refine tn 15 undef b ?_;refine tn 16 undef b ?_;refine tn 17 undef b ?_;refine tn 18 undef b ?_;refine tq 19 (.bool false) b ?_;refine Bsg Lt ?_ _;have Z:=(Ba a2).drew;clear b I O Q V;go_wp2;go_roundw
    case rel=>exact⟨q+1,f,z,Ck,rfl,rfl,Mg,J,Z⟩
    case measure=>simp[intOf];omega
   | true =>
    rw[Bts]at c;have D:=Bc (fun (_:Unit)=>c);clear c;refine tq 5 (.q wr.heap.size 0) b ?_;refine tq 6 (.i l) b ?_;refine tq 7 (.i z) b ?_;refine tq 8 (.bool Y) b ?_;refine tq 9 (.bool Y) b ?_;refine tq 10 (.bool Y) b ?_;have c:=Ba D ();clear D;cases Y with
    | false =>
     rw[Bt6,Pk Hd]at c;have J:Hid (Gp k.T j t ((k.lms.map Prod.fst).drop (q+1)) ((q+1:Nat):Int) f z=r):=c;clear c a1;refine tn 11 undef b ?_;refine tn 12 undef b ?_;refine tn 13 undef b ?_;refine tn 14 undef b ?_;refine tn 15 undef b ?_;refine tn 16 undef b ?_;refine tn 17 undef b ?_;refine tn 18 undef b ?_;refine tq 19 (.bool false) b ?_;refine Bsg Lt ?_ _;have Z:=(Ba a2).drew;clear b I O Q V;go_wp2;go_roundw
     case rel=>exact⟨q+1,f,z,Ck,rfl,rfl,Mg,J,Z⟩
     case measure=>simp[intOf];omega
    | true =>
     rw[Bts]at c;have D:=Bc (fun (_:Unit)=>c);clear c;refine tq 11 (.q k.B 0) b ?_;refine tq 12 (.q k.B 0) b ?_;refine tq 13 (.q k.B 2) b ?_;refine tq 14 (.agg #[.s (.p k.tg) k.T.length k.tc,.s k.ya k.lf.length k.yc]) b ?_;refine tq 15 (.i j) b ?_;refine tq 16 (.q wr.heap.size 0) b ?_;refine tq 17 (.i l) b ?_;refine tr 18 fun K hK=>?_;go_simp;refine Qm (a1 wA.drew (show Dy wA.drew k.tg k.T from b4)) ?_;intro w7 a0
     try dsimp only
     clear b;refine hK.out _ _ ⟨QC a0 lH I,QC a0 lH O,QC a0 lB Q,QC a0 lB V⟩ (fun b=>?_);clear hK K
     try simp only[QX]
     refine tq 19 (.bool WI) b ?_;refine Bsg Lt ?_ _;have c:=Ba D ();clear D;have Z:=(Ba a2).drew.trans (a0.mono (Ba a2).size);cases WI with
     | true =>
      rw[Th rfl]at c;have J:Hid (Gp k.T j t ((k.lms.map Prod.fst).drop (q+1)) ((q+1:Nat):Int) (q:Int) l=r):=c;have c5:=QC a0 lH I;clear b I O Q V a1 c;go_wp2;go_roundw
      case rel=>exact⟨q+1,(q:Int),l,Ck,rfl,rfl,Mg,J,Z⟩
      case measure=>simp[intOf];omega
     | false =>
      rw[Pk Hd]at c;have J:Hid (Gp k.T j t ((k.lms.map Prod.fst).drop (q+1)) ((q+1:Nat):Int) f z=r):=c;clear c a1;clear b I O Q V;go_wp2;go_roundw
      case rel=>exact⟨q+1,f,z,Ck,rfl,rfl,Mg,J,Z⟩
      case measure=>simp[intOf];omega
  have b8:q=k.lms.length:=Ck;subst b8;have c:=Ba F;rw[List.drop_of_length_le Hd]at c;have b9:f=r:=c;clear c F;subst b9;go_wp2;go_ret;exact⟨rfl,G⟩
structure Dn.Small(E:Dn):Prop where
 cd:∀n,∀x∈(E.meth n).code,0<=x/\x<=255
 cl:∀n,(E.meth n).code.length<=1000
 hn:∀n,∀h∈(E.meth n).handlers,0<=h.target/\h.target<=1000
 rm:E.room<=30
 dp:E.depth<=12
structure Et(E:Dn)(S:Bo):Prop where
 ob:S.objs.length<=35
 wt:S.wait.length<=12
 rd:S.read<=E.ins.length
 nx:S.now.next<=2000
 nw:∀c∈S.wait,c.next<=2000
def Et.now{E:Dn}{S:Bo}(h:Et E S){c:Bi}(b:c.next<=2000):Et E (S.withNow c):=⟨h.ob,h.wt,h.rd,b,h.nw⟩
def Fv(v:Int)(c:Bi):(D8 v c).next=c.next:=by unfold D8;split<;>rfl
def J2(c:Bi):(Bv c).2.next=c.next:=by unfold Bv;split<;>rfl
def Xp(n v:Int)(c:Bi):(Ep n v c).next=c.next:=by
 unfold Ep
 split<;>first|rfl|(split<;>rfl)
def Bav:∀(k:Nat) (c:Bi),(Dt k c).2.next=c.next
 | 0,_=>rfl
 | k+1,c=>(Bav k _).trans (J2 c)
def Bbm:∀(l:TI) (i:Nat) (c:Bi),(Jy i l c).next=c.next
 | [],_,_=>rfl
 | _::r,i,_=>(Bbm r (i+1) _).trans (Xp _ _ _)
def Ta(m:Int)(b:TI):(Cn m b).next=0:=Bbm b 0 _
def Et.push{E:Dn}{S:Bo}(h:Et E S)(v:Int):Et E (S.push v):=h.now (by rw[Fv];exact h.nx)
def Et.popped{E:Dn}{S:Bo}(h:Et E S):Et E S.popped:=h.now (by rw[J2];exact h.nx)
def Et.pops{E:Dn}{S:Bo}(h:Et E S)(k:Nat):Et E (Fs k S):=h.now (by rw[Bav];exact h.nx)
def Et.fin{E:Dn}{S:Bo}(h:Et E S)(a b:Int):Et E (S.fin a b):=⟨h.ob,h.wt,h.rd,h.nx,h.nw⟩
def Et.objs{E:Dn}{S:Bo}(h:Et E S){A:List (Int×List Int)}(b:A.length<=35):Et E (S.withObjs A):=⟨b,h.wt,h.rd,h.nx,h.nw⟩
def Ban{z:TI}{c:Int}{u:Nat}:∀{l:List Rd.Hnd},(∀h∈l,0<=h.target/\h.target<=1000)->∀{t:Nat},Hi z c u l=some t->t<=1000
 | [],_,_,h=>by simp[Hi]at h
 | x::r,hl,t,h=>by
  unfold Hi at h
  split at h
  ·have:=hl x Hd;simp only[Option.some.injEq]at h;omega
  exact Ban (fun y b=>hl y (by simp[b])) h
def Baj{E:Dn}{S:Bo}(h:Et E S){c:Bi}(b:S.wait.getLast?=some c):c.next<=2000/\S.wait.dropLast.length<=12/\∀x∈S.wait.dropLast,x.next<=2000:=by
 refine⟨h.nw c (List.mem_of_getLast? b),?_,fun x e=>h.nw x (List.dropLast_subset _ e)⟩;have:=h.wt;rw[List.length_dropLast];omega
def Wh{E:Dn}(f:E.Small)(o e:Int):∀(k:Nat) {S:Bo},Et E S->Et E (Jd E o e k S)
 | 0,_,h=>h
 | k+1,S,h=>by
  unfold Jd;cases g:E.target e S.now with
  | some t=>exact h.now (by have:=Ban (f.hn _) (show Hi E.T e S.now.pos (E.meth S.now.meth).handlers=some t from g);show t<=2000;omega)
  | none =>
   cases i:S.wait.getLast? with
   | none=>exact h.fin _ _
   | some c =>
    obtain⟨a,b,d⟩:=Baj h i;exact Wh f o e k ⟨h.ob,b,h.rd,a,d⟩
def Ng{E:Dn}(b:E.Small)(c:Int){S:Bo}(h:Et E S):Et E (Fd E c S):=Wh b _ _ _ h
def Xt{E:Dn}(e:E.Small)(m:Int)(f:TI){S:Bo}(h:Et E S):Et E (Hj E m f S):=by
 unfold Hj
 split
 ·exact Ng e _ h
 rename_i g;have:=e.dp;refine⟨h.ob,by show (S.wait++[S.now]).length<=12;simp;omega,h.rd,by show (Cn m f).next<=2000;rw[Ta];omega,fun c b=>?_⟩
 rcases List.mem_append.1 b with b|b
 ·exact h.nw c b
 rw[List.mem_singleton.1 b];exact h.nx
def Bbu{E:Dn}(r:Int×Int)(v:Int){S:Bo}(h:Et E S):Et E (Kf r v S):=by
 unfold Kf;cases e:S.wait.getLast? with
 | none=>exact h.fin _ _
 | some c =>
  obtain⟨a,b,d⟩:=Baj h e;refine⟨h.ob,b,h.rd,?_,d⟩;show (if r.1=0 then c else D8 v c).next<=2000
  split
  ·exact a
  rw[Fv];exact a
def Bjz(op n:Int)(c:Bi):(Jk op n c).next=c.next:=by
 unfold Jk;by_cases b:op=0;·rw[Th b,Fv]
 rw[Pk b];by_cases e:op=1;·rw[Th e,Fv]
 rw[Pk e];by_cases f:op=2;·rw[Th f,Fv]
 rw[Pk f];by_cases g:op=3;·rw[Th g,Xp,J2]
 rw[Pk g];by_cases h:op=4;·rw[Th h,J2]
 rw[Pk h];by_cases i:op=5;·rw[Th i,Fv,Fv,J2]
 rw[Pk i];by_cases j:op=6;·rw[Th j,Fv,Fv,J2,J2]
 rw[Pk j]
def Bfk(op n:Int)(i:n<=255)(c:Bi)(b:c.next<=2000):(Gq op n c).next<=2000:=by
 have g:∀d:Bi,(Ki n.toNat d).next<=2000:=fun d=>by show n.toNat<=2000;omega
 unfold Gq;by_cases e:op=12
 ·rw[Th e]
  split
  ·exact g _
  rw[J2];exact b
 rw[Pk e];by_cases f:op=13
 ·rw[Th f]
  split
  ·exact g _
  rw[J2,J2];exact b
 rw[Pk f];by_cases h:op=14
 ·rw[Th h]
  split
  ·exact g _
  rw[J2];exact b
 rw[Pk h];exact g _
def Bl2(r:Int)(b:TI)(l:List (Int×List Int)):(P9 r b l).length=l.length:=by unfold P9;split<;>simp
def Bme(r s v:Int)(l:List (Int×List Int)):(Ra r s v l).length=l.length:=by unfold Ra;split<;>simp
def Bqx{E:Dn}(b:E.Small)(op n:Int)(B:n<=255){S:Bo}(h:Et E S):Et E (Ch E op n S):=by
 unfold Ch;by_cases c:op<=6;·rw[Th c];exact h.now (by rw[Bjz];exact h.nx)
 rw[Pk c];by_cases e:op<=10
 ·rw[Th e];unfold L6;cases Ia op S.popped.top S.top with
  | none=>exact Ng b _ h.popped.popped
  | some z=>exact h.popped.popped.push z
 rw[Pk e];by_cases f:op<=14;·rw[Th f];exact h.now (Bfk op n B _ h.nx)
 rw[Pk f];by_cases g:op=15
 ·rw[Th g];unfold L7
  split
  ·exact Ng b _ h
  rename_i C;have:=b.rm;exact(h.objs Fr).push _
 rw[Pk g];by_cases i:op=16;·rw[Th i];exact(h.pops _).popped.objs (by rw[Bl2];exact h.ob)
 rw[Pk i];by_cases j:op=17
 ·rw[Th j];unfold Ke
  split
  ·exact Ng b _ h.popped
  exact h.popped.push _
 rw[Pk j];by_cases l:op=18
 ·rw[Th l];unfold Kd
  split
  ·exact Ng b _ h.popped.popped
  exact h.popped.popped.objs (by rw[Bme];exact h.ob)
 rw[Pk l];by_cases m:op=19
 ·rw[Th m];unfold Oz
  split
  ·exact h.popped.push _
  split
  ·exact h.popped.push _
  exact Ng b _ h.popped
 rw[Pk m];by_cases p:op=20;·rw[Th p];exact Xt b _ _ (h.pops _)
 rw[Pk p];by_cases q:op=21
 ·rw[Th q];unfold Oy Nq
  split
  ·exact Ng b _ (h.pops _).popped
  exact Xt b _ _ (h.pops _).popped
 rw[Pk q];by_cases s:op=22
 ·rw[Th s];unfold Jq
  split
  ·exact Bbu _ _ h
  exact Bbu _ _ h.popped
 rw[Pk s];by_cases t:op=23
 ·rw[Th t];unfold Jc
  split
  ·exact Ng b _ h.popped
  exact Wh b _ _ _ h.popped
 rw[Pk t];by_cases v:op=24
 ·rw[Th v];unfold Po
  split
  ·rename_i C;exact Et.push (S:=⟨S.read+1,S.objs,S.now,S.wait,S.ended,S.out,S.status,S.value,S.steps⟩) ⟨h.ob,h.wt,by show S.read+1<=_;omega,h.nx,h.nw⟩ _
  exact h.push _
 rw[Pk v];by_cases A:op=25;·rw[Th A];exact⟨h.ob,h.wt,h.rd,by show (Bv S.now).2.next<=2000;rw[J2];exact h.nx,h.nw⟩
 rw[Pk A];exact h
def Bdd{E:Dn}(e:E.Small)(c:Bi):0<=(Fg E c).op/\(Fg E c).op<=25/\0<=(Fg E c).n/\(Fg E c).n<=255/\0<=(Fg E c).place/\(Fg E c).place<=1000:=by
 unfold Fg Cd.one
 split
 ·rename_i f;obtain⟨i,g,j⟩:=f;have b:∀q,0<=(E.meth c.meth).code.getD q 0/\(E.meth c.meth).code.getD q 0<=255:=fun q=>by
   rw[Vm];cases h:(E.meth c.meth).code[q]? with
   | none=>simp
   | some x=>exact e.cd _ x (Bs6 h)
  have l:=e.cl c.meth;refine⟨(b _).1,g,?_,?_,by show (0:Int)<=(c.next:Int);omega,by show (c.next:Int)<=1000;omega⟩
  ·show 0<=(if Cd.wd ((E.meth c.meth).code.getD c.next 0)=2 then (E.meth c.meth).code.getD (c.next+1) 0 else 0)
   split
   ·exact(b _).1
   exact Bu7 _
  show (if Cd.wd ((E.meth c.meth).code.getD c.next 0)=2 then (E.meth c.meth).code.getD (c.next+1) 0 else 0)<=255
  split
  ·exact(b _).2
  omega
 exact⟨by simp[Cd.orZero],by simp[Cd.orZero],by simp[Cd.orZero],by simp[Cd.orZero],by simp[Cd.orZero],by simp[Cd.orZero]⟩
def Bnp{E:Dn}(c:E.Small){S:Bo}(h:Et E S):Et E (Mh E S):=by
 obtain⟨_,_,_,_,a,b⟩:=Bdd c S.now;have e:=Cd.wd_bd (Fg E S.now).op;exact⟨h.ob,h.wt,h.rd,by show (Fg E S.now).place.toNat+Cd.wd (Fg E S.now).op<=2000;omega,h.nw⟩
def Bft{E:Dn}(b:E.Small){S:Bo}(h:Et E S):Et E (Gk E S):=Bqx b _ _ (Bdd b S.now).2.2.2.1 (Bnp b h)
def Bcq(E:Dn)(e:Int):Et E (Gb e):=⟨by simp[Gb],by simp[Gb],by simp[Gb],by show (Cn e []).next<=2000;rw[Ta];omega,fun c b=>by simp[Gb]at b⟩
def Bjx(k:Cw)(S:Bo)(v:Dd)(n:Int)(w:TW)(b:k.Ok)(h:Bw k S v w)(hw:S.wait.length<=1000):Calls prog 193 #[.q k.B 0,.i n] w fun e c=>e=.r (.tuple #[])/\∃v',Bw k (Oy k.E n S) v' c:=by
 have hm:=N8 k S v n w b h;have d9:=b.pm n;unfold Oy;generalize k.E.meth n=M at *;have a8:(Ih M.params.length S).length=M.params.length:=Sx _ _;have b5:Hid (∀w la lc,Bw k S v w->Calls prog 248 #[.q k.B 12,.s la M.params.length lc] w fun e c=>e=.r (.s (.p w.heap.size) M.params.length M.params.length)/\Rc k S v c w.heap.size M.params.length (Ih M.params.length S)/\Bw k (Fs M.params.length S) v c/\Gr k.B w c):=fun w la lc h=>Wp k S v la M.params.length lc w b h Ck;have eW:(Fs M.params.length S).popped.wait=S.wait:=rfl;generalize Ih M.params.length S=l at *;generalize Fs M.params.length S=S1 at *;have HP:Hid (∀w,Bw k S1 v w->Calls prog 240 #[.q k.B 12] w fun e c=>e=.r (.i S1.top)/\Bw k S1.popped v c/\Gr k.B w c):=fun w h =>
  (Is S1.now k.B 12 156 _ _ w rfl h.wf h.blk).mono fun e c ⟨he,t,hg⟩=>⟨he,h.now b hg (Fc h.wf) t,hg⟩
 generalize S1.top=x at *;generalize S1.popped=S2 at *;have hT:=fun w h=>Ht k S2 v 3 w b h Ck Ck;have hC:=fun w h=>Tc k S2 v x w h;have hN:=fun w h=>Bdk k S2 v (Ho x S2.objs) M.name w b h;have hO:=fun m xa xc w h hx=>Ba5 k S2 v m xa xc (x::l) w b h hx Fr (by rw[eW];exact hw);obtain⟨i0,hi,c9,d0,d1⟩:=Bsa Tryz.infoInt;unfold Nq;generalize Ho x S2.objs=cl at *;generalize k.E.nearest cl M.name=nr at *;have HT:=Bc hT;have HC:=Bc hC;have HN:=Bc hN;have HO:=Bc hO;have HA:=Bc h;have HM:=Bc hm;have f0:=h.blk.lt;clear h hm hT hC hN hO eW;by_cases a2:x=0
 ·rw[Th a2];subst a2;go_in;go_wp2_with fail;refine(Ba HM).mono ?_;rintro e A ⟨m,rfl,t,a3⟩;have G:=(Ba HA).gr b a3;have a4:=t.pl;have a5:=t.nm;obtain⟨I,m2,f,m4,g,J,K,L,N,O,Q,V,Y,Z,mf,mg,mh,mi⟩:=m;simp only at a4 a5;subst a4 a5;simp only[PM.val];have h2:=G.gr b (QN (O18 I M.name f M.params.length g J K L N O Q V Y Z mf mg mh mi));have D:=Be A (O18 I M.name f M.params.length g J K L N O Q V Y Z mf mg mh mi);have a6:A.heap.size≠k.B:=by have:=G.blk.lt;omega
  have q2:=(Bb D 2).trans (show _=some (.s f M.params.length g) from rfl);have H2:=Bc h2;clear HM t a3 G h2 HA;go_wp2;generalize A.alloc (O18 I M.name f M.params.length g J K L N O Q V Y Z mf mg mh mi)=F at *
  go_region_held3 (fun c=>c.C A.heap.size 2 (.s f M.params.length g))
   (first|exact q2|exact(Bb (a7.own (show F.drew.heap[_]?=_ from D) a6) 2).trans rfl)
   (first|(go_at_call 248;refine(Ba b5 _ _ _ ((Ba H2).drew b)).mono ?_;rintro e w7 ⟨rfl,b6,a9,a7⟩))
  clear q2 D;go_wp2_with fail;refine Qm (Ba HP _ a9) ?_;rintro w8 ⟨h8,b0⟩;go_wp2_with fail;refine Qm (Ba HT _ h8) ?_;rintro w9 ⟨v',h9⟩;go_wp2;refine tb (.tuple #[]) (by simp[results,results193,go_sem]) ?_;exact⟨rfl,v',h9⟩
 rw[Pk a2];have f1:(x==0)=false:=by simp[a2]
 clear a2 HT;go_in;go_wp2_with fail;refine(Ba HM).mono ?_;rintro e A ⟨m,rfl,t,a3⟩;have G:=(Ba HA).gr b a3;have a4:=t.pl;have a5:=t.nm;obtain⟨I,m2,f,m4,g,J,K,L,N,O,Q,V,Y,Z,mf,mg,mh,mi⟩:=m;simp only at a4 a5;subst a4 a5;simp only[PM.val];have h2:=G.gr b (QN (O18 I M.name f M.params.length g J K L N O Q V Y Z mf mg mh mi));have D:=Be A (O18 I M.name f M.params.length g J K L N O Q V Y Z mf mg mh mi);have a6:A.heap.size≠k.B:=by have:=G.blk.lt;omega
 have q2:=(Bb D 2).trans (show _=some (.s f M.params.length g) from rfl);have H2:=Bc h2;clear HM t a3 G h2 HA;go_wp2;generalize A.alloc (O18 I M.name f M.params.length g J K L N O Q V Y Z mf mg mh mi)=F at *
 go_region_held3 (fun c=>c.C A.heap.size 2 (.s f M.params.length g))
  (first|exact q2|exact(Bb (a7.own (show F.drew.heap[_]?=_ from D) a6) 2).trans rfl)
  (first|(go_at_call 248;refine(Ba b5 _ _ _ ((Ba H2).drew b)).mono ?_;rintro e w7 ⟨rfl,b6,a9,a7⟩))
 have b7:=a7.own (show F.drew.heap[_]?=_ from D) a6;clear q2 D;go_wp2_with fail;refine Qm (Ba HP _ a9) ?_;rintro w8 ⟨h8,b0⟩;have b8:=b0.own b7 a6;have q1:=(Bb b8 1).trans (show _=some (.i M.name) from rfl);have d2:=b6.gr b0;go_wp2_with fail;refine Qm (Ba HC _ h8) ?_;rintro w9 rfl;go_wp2_with fail;refine Qm (Ba HN _ h8) ?_;intro a0 b1;have b2:=h8.gr b b1;have b9:De a0 k.w0.heap.size (.s (.p F.heap.size) M.params.length M.params.length) l:=Dc d2.ints (Kp.of_below (e:=none) b1) Fm;have d3:=b2.rows.szs;have d4:=World.ownsRow_lit (base:=k.w0.heap.size) (e:=3) (size:=1) a0 #[.i x] 1 d3 Pf rfl;have c1:De (a0.alloc (O4 x)) k.w0.heap.size (.s (.p F.heap.size) M.params.length M.params.length) l:=Dc b9 (Kp.alloc (e:=none) a0 _) Fm;have d5:∀j u,(l.map (Value.int .i64))[j]?=some u->(a0.alloc (O4 x)).cell? ((⟨F.heap.size,0,none⟩:Addr).add j)=some u:=fun j u hu=>by
  obtain⟨_,⟨hv,_⟩|⟨g',f2,f3,hv,_,hg,_,_,_,d6⟩⟩:=c1
  ·simp at hv
  simp only[Value.slice.injEq,Option.some.injEq,Addr.mk.injEq,Br8]at hv;obtain⟨rfl,_,_⟩:=hv;rw[Addr.add_mid,Brz,Bb hg,<- hu,<- d6,Bs0,Th (by have:=(List.getElem?_eq_some_iff.1 hu).1;simp at this ⊢;exact this)];simp
 clear b7 b8 b1 h8 b9 c1;go_wp2_with (at_builtin;refine Btl _ rfl _ _ 26 rfl k.w0.heap.size 3 i0 _ 1 8 Bta hi c9 d0 d1 rfl Fm _ _ _ rfl d4 ⟨F.heap.size,0,none⟩ M.params.length M.params.length (l.map (Value.int .i64)) rfl ?c0 d5 ?c2 ?c3 ?c4 ?c5 ?_)
 case c0=>simp[a8]
 case c2=>intro u hu;simp at hu;obtain⟨z,_,rfl⟩:=hu;rfl
 case c3=>unfold maxLen;omega
 case c4=>omega
 case c5=>simp;omega
 intro v' b3 b4 a1 _ d7;obtain⟨xa,xc,rfl⟩:=Bh b4;have c6:Bl a0 b3:=⟨a1.os,a1.tape,a1.output,Br5 Hd a1.size,fun j hj=>(a1.block j Fr (by simp[Value.ownBlock];omega)).trans (Br2 _ _ _ hj)⟩;have c7:=b2.gr b c6;have c8:De b3 k.w0.heap.size (.s xa (x::l).length xc) (x::l):=by
  have e:(x::l).length=1+M.params.length:=by simp[a8];omega
  rw[e];unfold De;rw[e];simpa using b4
 have hO:=Ba HO nr xa xc b3 c7 c8;have e:(x::l).length=1+M.params.length:=by simp[a8];omega
 rw[e]at hO;clear b4 a1 d7 c6 c7 c8 e b2;go_wp2_with fail;refine Qm hO ?_;rintro f4 ⟨v',d8⟩;go_wp2;go_end0;exact⟨rfl,v',d8⟩
def N9(k:Cw)(S:Bo)(v:Dd)(p op n:Int)(w:TW)(b:k.Ok)(h:Bw k S v w)(l:15<=op/\op<=19)(g:0<=n/\n<=255)(j:S.objs.length<=1000):Calls prog 191 #[.q k.B 0,.agg #[.i p,.i op,.i n]] w fun e m=>e=.r (.tuple #[])/\∃f,Bw k (Ch k.E op n S) f m:=by
 rcases(show op=15\/op=16\/op=17\/op=18\/op=19 by omega) with rfl|rfl|rfl|rfl|rfl
 have c:=Be6 k S v n _ b (h.gr b (QN (O15 p 15 n))) j;rw[show Ch k.E 15 n S=L7 k.E n S from rfl]
 rotate_left
 have c:=Ay k S v n _ b (h.gr b (QN (O15 p 16 n)));rw[show Ch k.E 16 n S=Lq k.E n S from rfl]
 rotate_left
 have c:=Bca k S v n _ b (h.gr b (QN (O15 p 17 n))) ⟨g.1,Ck⟩;rw[show Ch k.E 17 n S=Ke k.E n S from rfl]
 rotate_left
 have c:=Bb5 k S v n _ b (h.gr b (QN (O15 p 18 n))) ⟨g.1,Ck⟩;rw[show Ch k.E 18 n S=Kd k.E n S from rfl]
 rotate_left
 have c:=Bj4 k S v n _ b (h.gr b (QN (O15 p 19 n)));rw[show Ch k.E 19 n S=Oz k.E n S from rfl]
 rotate_left
 all_goals
  clear h l j;go_in;go_wp2_with fail;refine Qm c ?_;rintro t ⟨f,s⟩;go_wp2;go_end0;exact⟨rfl,f,s⟩
def Bj8(k:Cw)(S:Bo)(v:Dd)(p op n:Int)(w:TW)(f:k.Ok)(h:Bw k S v w)(g:0<=op/\op<=6)(j:0<=n/\n<=255):Calls prog 188 #[.q k.B 12,.agg #[.i p,.i op,.i n]] w fun e b=>e=.r (.tuple #[])/\Bw k (S.withNow (Jk op n S.now)) v b/\Gr k.B w b :=
 (Bj2 S.now p op n k.B 12 156 _ _ w rfl h.wf h.blk g j).mono fun _ _ ⟨l,m,c⟩=>⟨l,h.now f c (Bov h.wf op n) m,c⟩
def Bfa(k:Cw)(S:Bo)(v:Dd)(p op n:Int)(w:TW)(f:k.Ok)(h:Bw k S v w)(g:11<=op/\op<=14)(j:0<=n):Calls prog 190 #[.q k.B 12,.agg #[.i p,.i op,.i n]] w fun e b=>e=.r (.tuple #[])/\Bw k (S.withNow (Gq op n S.now)) v b/\Gr k.B w b :=
 (Be7 S.now p op n k.B 12 156 _ _ w rfl h.wf h.blk g j).mono fun _ _ ⟨l,m,c⟩=>⟨l,h.now f c (Bk5 h.wf op n) m,c⟩
def Bnu{E:Dn}{op n:Int}{S:Bo}(h:op<=6):Ch E op n S=S.withNow (Jk op n S.now):=by unfold Ch;rw[Th h]
def Bib{E:Dn}{op n:Int}{S:Bo}(h:7<=op/\op<=10):Ch E op n S=L6 E op S:=by unfold Ch;rw[Pk Ck,Th h.2]
def Bic{E:Dn}{op n:Int}{S:Bo}(h:11<=op/\op<=14):Ch E op n S=S.withNow (Gq op n S.now):=by unfold Ch;rw[Pk Ck,Pk Ck,Th h.2]
structure Ar(S:Bo):Prop where
 ob:S.objs.length<=1000
 wt:S.wait.length<=1000
 rd:S.read<=100000
 ou:S.out.length<=100000
def Bmv(k:Cw)(S:Bo)(v:Dd)(p op n:Int)(w:TW)(l:k.Ok)(h:Bw k S v w)(m:0<=op/\op<=14)(J:0<=n/\n<=255):Calls prog 133 #[.q k.B 0,.agg #[.i p,.i op,.i n]] w fun e b=>e=.r (.tuple #[])/\∃D,Bw k (Ch k.E op n S) D b:=by
 have K:=h.gr l (QN (O15 p op n));have c:=Be w (O15 p op n);have L:=(Bb c 0).trans (show _=some (.i p) from rfl);have N:=(Bb c 1).trans (show _=some (.i op) from rfl);have O:=(Bb c 2).trans (show _=some (.i n) from rfl);have s:w.heap.size≠k.B:=by have:=h.blk.lt;omega
 have F:=Bc K;clear h K;by_cases t:op<=6
 ·rw[Bnu t];have f:=fun w h=>Bj8 k S v p op n w l h ⟨m.1,t⟩ J;have z:=Bc f;clear f;have G:(op==0)=true\/(op==0)=false/\((op==1)=true\/(op==1)=false/\((op==2)=true\/(op==2)=false/\((op==3)=true\/(op==3)=false/\((op==4)=true\/(op==4)=false/\((op==5)=true\/(op==5)=false/\((op==6)=true)))))):=Fr;clear t m;rcases G with Q|⟨Q,V|⟨V,Y|⟨Y,Z|⟨Z,b4|⟨b4,b5|⟨b5,b6⟩⟩⟩⟩⟩⟩
  all_goals
   go_in;go_wp2;generalize w.alloc (O15 p op n)=g at *
   go_region_held3 (fun b=>b.C w.heap.size 0 (.i p)/\b.C w.heap.size 1 (.i op)/\b.C w.heap.size 2 (.i n))
    (first|exact⟨L,N,O⟩|exact⟨(Bb (j.own (show g.drew.heap[_]?=_ from c) s) 0).trans rfl,(Bb (j.own (show g.drew.heap[_]?=_ from c) s) 1).trans rfl,(Bb (j.own (show g.drew.heap[_]?=_ from c) s) 2).trans rfl⟩)
    (first|(go_at_call 188;refine(Ba z _ ((Ba F).drew l)).mono ?_;rintro e w7 ⟨rfl,A,j⟩))
   go_wp2;go_end0;exact⟨rfl,v,A⟩
 by_cases I:op<=10
 ·rw[Bib ⟨Ck,I⟩];have f:=fun w h=>Be3 k S v op w l h;have z:=Bc f;clear f;have a0:op=7\/op=8\/op=9\/op=10:=Ck;clear t m I;rcases a0 with rfl|rfl|rfl|rfl
  all_goals
   go_in;go_wp2_with fail;refine Qm (Ba z _ (Ba F)) ?_;rintro w7 ⟨D,A⟩;go_wp2;go_end0;exact⟨rfl,D,A⟩
 rw[Bic ⟨Ck,m.2⟩];have f:=fun w h=>Bfa k S v p op n w l h ⟨Ck,m.2⟩ J.1;have z:=Bc f;clear f;obtain⟨Q,V,Y,Z,b4,b5,b6,b7,b8,b9,a4⟩:(op==0)=false/\(op==1)=false/\(op==2)=false/\(op==3)=false/\(op==4)=false/\(op==5)=false/\(op==6)=false/\(op==7)=false/\(op==8)=false/\(op==9)=false/\(op==10)=false:=Fr;have G:(op==11)=true\/(op==11)=false/\((op==12)=true\/(op==12)=false/\((op==13)=true\/(op==13)=false/\((op==14)=true))):=Fr;clear t m I;rcases G with a1|⟨a1,a2|⟨a2,a3|⟨a3,a5⟩⟩⟩
 all_goals
  go_in;go_wp2;generalize w.alloc (O15 p op n)=g at *
  go_region_held3 (fun b=>b.C w.heap.size 0 (.i p)/\b.C w.heap.size 1 (.i op)/\b.C w.heap.size 2 (.i n))
   (first|exact⟨L,N,O⟩|exact⟨(Bb (j.own (show g.drew.heap[_]?=_ from c) s) 0).trans rfl,(Bb (j.own (show g.drew.heap[_]?=_ from c) s) 1).trans rfl,(Bb (j.own (show g.drew.heap[_]?=_ from c) s) 2).trans rfl⟩)
   (first|(go_at_call 190;refine(Ba z _ ((Ba F).drew l)).mono ?_;rintro e w7 ⟨rfl,A,j⟩))
  go_wp2;go_end0;exact⟨rfl,v,A⟩
def Bo0(k:Cw)(S:Bo)(v:Dd)(w:TW)(c:k.Ok)(h:Bw k S v w)(f:S.read<=100000):Calls prog 196 #[.q k.B 0] w fun e g=>e=.r (.tuple #[])/\∃i,Bw k (Po k.E S) i g :=
 (Boy k S v w c h f).mono fun _ _ ⟨a,b⟩=>⟨a,v,b⟩
def Bmu(k:Cw)(S:Bo)(v:Dd)(p op n:Int)(w:TW)(b:k.Ok)(h:Bw k S v w)(j:15<=op/\op<=25)(f:0<=n/\n<=255)(hF:Ar S):Calls prog 133 #[.q k.B 0,.agg #[.i p,.i op,.i n]] w fun e l=>e=.r (.tuple #[])/\∃g,Bw k (Ch k.E op n S) g l:=by
 rcases(show op=15\/op=16\/op=17\/op=18\/op=19\/op=20\/op=21\/op=22\/op=23\/op=24\/op=25 by omega) with rfl|rfl|rfl|rfl|rfl|rfl|rfl|rfl|rfl|rfl|rfl
 have c:=N9 k S v p 15 n _ b (h.gr b (QN (O15 p 15 n))) Ck f hF.ob
 rotate_left
 have c:=N9 k S v p 16 n _ b (h.gr b (QN (O15 p 16 n))) Ck f hF.ob
 rotate_left
 have c:=N9 k S v p 17 n _ b (h.gr b (QN (O15 p 17 n))) Ck f hF.ob
 rotate_left
 have c:=N9 k S v p 18 n _ b (h.gr b (QN (O15 p 18 n))) Ck f hF.ob
 rotate_left
 have c:=N9 k S v p 19 n _ b (h.gr b (QN (O15 p 19 n))) Ck f hF.ob
 rotate_left
 have c:=Bj5 k S v n _ b (h.gr b (QN (O15 p 20 n))) hF.wt;rw[show Ch k.E 20 n S=Su k.E n S from rfl]
 rotate_left
 have c:=Bjx k S v n _ b (h.gr b (QN (O15 p 21 n))) hF.wt;rw[show Ch k.E 21 n S=Oy k.E n S from rfl]
 rotate_left
 have c:=Bb9 k S v _ b (h.gr b (QN (O15 p 22 n)));rw[show Ch k.E 22 n S=Jq k.E S from rfl]
 rotate_left
 have c:=Zv k S v _ b (h.gr b (QN (O15 p 23 n)));rw[show Ch k.E 23 n S=Jc k.E S from rfl]
 rotate_left
 have c:=Bo0 k S v _ b (h.gr b (QN (O15 p 24 n))) hF.rd;rw[show Ch k.E 24 n S=Po k.E S from rfl]
 rotate_left
 have c:=Bmq k S v _ b (h.gr b (QN (O15 p 25 n))) hF.ou;rw[show Ch k.E 25 n S=Vd S from rfl]
 rotate_left
 all_goals
  clear h j hF;go_in;go_wp2_with fail;refine Qm c ?_;rintro s ⟨g,m⟩;go_wp2;go_end0;exact⟨rfl,g,m⟩
def Boz(k:Cw)(S:Bo)(v:Dd)(p op n:Int)(w:TW)(b:k.Ok)(h:Bw k S v w)(c:0<=op/\op<=25)(f:0<=n/\n<=255)(hF:Ar S):Calls prog 133 #[.q k.B 0,.agg #[.i p,.i op,.i n]] w fun e g=>e=.r (.tuple #[])/\∃j,Bw k (Ch k.E op n S) j g:=by
 by_cases l:op<=14;·exact Bmv k S v p op n w b h ⟨c.1,l⟩ f
 exact Bmu k S v p op n w b h ⟨Ck,c.2⟩ f hF
def Cw.Ok.cm{k:Cw}(c:k.Ok)(n:Int):(k.E.meth n).code.length<=1000/\∀x∈(k.E.meth n).code,0<=x/\x<=255:=by
 unfold Dn.meth
 split
 ·simp[Ef]
 split
 ·simp[Ef]
 rename_i f g;have h:k.E.ms.length=k.lms.length:=by simp[Cw.E]
 have b:n.toNat<k.lms.length:=Ck;have e:k.E.ms.getD n.toNat Ef=k.lms[n.toNat].1:=by
  rw[Vm];simp[Cw.E,b]
 rw[e];exact c.cd _ (Brn b)
def Bhh(c:Bi)(l:TI)(I:TA)(J Z B o:Nat)(t:TypeId)(C K:TV)(w:TW)(j:C.length=o)(m:Dz c)(h:Mid w B t C c.cells K)(hl:l.length<=1000)(h0:∀x∈l,0<=x)(hi:De w Z (.s I l.length J) l)(hx:c.next<=2000):Calls prog 132 #[.q B o,.s I l.length J] w fun e p=>e=.r (.agg #[.i (Cd.orZero (Cd.one l c.next)).place,.i (Cd.orZero (Cd.one l c.next)).op,.i (Cd.orZero (Cd.one l c.next)).n])/\Mid p B t C (⟨c.meth,c.next,(Cd.orZero (Cd.one l c.next)).place.toNat+Cd.wd (Cd.orZero (Cd.one l c.next)).op,c.lo,c.st,c.h⟩:Bi).cells K/\Gr B w p:=by
 have hR:=fun p (hb:Bl w p)=>Bef l I J Z c.next p hl Ck h0 (hi.kp (Kp.of_below (e:=none) hb) Fm)
 generalize f:Cd.one l c.next=r at *
 have a7:∃q:Nat,(Cd.orZero r).place=(q:Int)/\q<=100000:=by
  cases r with
  | none=>exact⟨0,rfl,Ck⟩
  | some x =>
   unfold Cd.one at f
   split at f
   ·simp only[Option.some.injEq]at f;subst f;exact⟨c.next,rfl,Ck⟩
   cases f
 obtain⟨q,hq,a8⟩:=a7;generalize Cd.orZero r=a9 at *;obtain⟨pl,op,n⟩:=a9;simp only at hq hR ⊢;subst hq;rw[Brx];have hN:=fun w=>W1 q op n w a8;have b4:=h.lt;clear f hi h0;go_in;have s2:=((h.alloc (O15 0 0 0)).sees j m).n;go_wp2_with fail;refine Qm (hR _ (QN _)) ?_;intro v D;have F:=(h.alloc (O15 0 0 0)).below D;have L:=stay D (Be w (O15 0 0 0));have b5:=Sp L;obtain⟨N,z1,z2,O,Q,V,g⟩:=F.sees j m;have f1:=g (o+1);have f2:=g (o+2);have b6:=F.lt;have a0:Gr B w v:=Gr.of_below ((Gr.refl _ _).alloc _) D;clear N O Q V g s2;go_wp2_with fail;refine Qm (hN _) ?_;intro w2 z;have a1:=F.setP j c.next
 have b0:Dz ⟨c.meth,c.next,c.next,c.lo,c.st,c.h⟩:=⟨m.lo,m.st,m.h⟩
 have b1:(v.setCell (.a B (o+1)) (.i (c.next:Int))).heap.size=v.heap.size:=by simp[World.setCell]
 have G:=(a1.alloc (O15 (q:Int) op n)).below z;have O0:=Be (v.setCell (.a B (o+1)) (.i (c.next:Int))) (O15 (q:Int) op n)
 rw[b1]at O0;have O2:=stay z O0;have a2:(v.setCell (.a B (o+1)) (.i (c.next:Int))).heap[w.heap.size]?=_:=(Brk _ _ _ _ (by simpa using (show w.heap.size≠B by omega))).trans L
 have A:=stay z (Bg a2 (O15 (q:Int) op n));have b7:=Sp O2;have b8:=Sp A;have u0:=(Bb O2 0).trans (show _=some (.i (q:Int)) from rfl);have u1:=(Bb O2 1).trans (show _=some (.i op) from rfl);have u2:=(Bb O2 2).trans (show _=some (.i n) from rfl);have v0:=(Bb A 0).trans (show _=some (.i 0) from rfl);have v1:=(Bb A 1).trans (show _=some (.i 0) from rfl);have v2:=(Bb A 2).trans (show _=some (.i 0) from rfl);obtain⟨g0,g1,g2⟩:=fr3 A;obtain⟨N,y1,y2,O,Q,V,g⟩:=G.sees j b0;have b9:=g (o+2);have c0:=G.lt;have a3:=G.setN j (q+Cd.wd op);have a4:Gr B w w2:=Gr.of_below ((a0.setB _).alloc _) z;have Y:w.heap.size≠B:=Ck;have a5:∀u0 u1 u2,Mid (((((w2.setCell (.a B (o+2)) (.i ((q+Cd.wd op:Nat):Int))).setCell (.a w.heap.size 0) u0).setCell (.a w.heap.size 1) u1)).setCell (.a w.heap.size 2) u2) B t C (⟨c.meth,c.next,q+Cd.wd op,c.lo,c.st,c.h⟩:Bi).cells K:=fun a b d=>by
  unfold Mid;rw[Brk _ _ _ _ (by simpa using Btj Y),Brk _ _ _ _ (by simpa using Btj Y),Brk _ _ _ _ (by simpa using Btj Y)];exact a3
 have b2:=Bc a5;have b3:=Bc a4;clear a1 F G L a2 O0 D z N z1 z2 O Q V g y1 a0 a3 a5 a4 h;go_wp2;refine tb (.agg #[.i (q:Int),.i op,.i n]) (by simp[results,results132,go_sem,v0,v1,v2]) ?_;have a6:=Ba b2 (.i (q:Int)) (.i op) (.i n);rw[Bvi]at a6;exact⟨rfl,a6,((((Ba b3).setB _).set (.inl (Bru _)) _).set (.inl (Bru _)) _).set (.inl (Bru _)) _⟩
def Bw.other{k:Cw}{S:Bo}{v:Dd}{w:TW}(h:Bw k S v w)(p:k.Ok){u:Nat}{cs:TV}(z:w.heap[u]?=some (.cells cs.toArray 219 (0,0)))(G:k.w0.heap.size<=u)(i:Nat)(c:TX):Bw k S v (w.setCell (.a u i) c):=by
 have I:=p.Bs;have J:=p.sz;have m:∀q,q≠u->(w.setCell (.a u i) c).heap[q]?=w.heap[q]?:=fun q j=>Brk _ _ _ _ (by simpa using j);have l:∀{b e s n:Nat}{x:TX}{t:TV},w.ownsRow b e s x n t->e≠219->(w.setCell (.a u i) c).ownsRow b e s x n t:=fun f A=>Fz f (fun q j=>m q (Fl f z A q j));have f:=h.rows;refine⟨(m k.B Ck).trans h.blk,h.wf,⟨l f.objs Fm,f.ovl,f.obk,fun q j=>l (f.flds q j) Fm,l f.wait Fm,f.wwf,l f.out Fm,f.nd,fun q C D F=>?_,f.low.setCell Fr _,by simp[World.setCell];exact f.szs⟩⟩;rw[m q Ck];exact f.keep q C D F
def Bjw(k:Cw)(S:Bo)(v:Dd)(w:TW)(f:k.Ok)(h:Bw k S v w)(hF:Ar S)(c3:S.now.next<=2000)(c6:S.steps<=100000)(F:0<=(Fg k.E S.now).op/\(Fg k.E S.now).op<=25/\0<=(Fg k.E S.now).n/\(Fg k.E S.now).n<=255):Calls prog 86 #[.q k.B 0] w fun e A=>e=.r (.tuple #[])/\∃I,Bw k (Gk k.E S) I A:=by
 have c7:=h.sees.c37;have c8:=h.sees.fr 37;have N:Bw k ⟨S.read,S.objs,S.now,S.wait,S.ended,S.out,S.status,S.value,S.steps+1⟩ v (w.setCell (.a k.B 37) (.i ((S.steps:Int)+1))):=h.setPost f (j:=5) Ck _ rfl rfl (by simp[Gy]) h.rows;have c9:(w.setCell (.a k.B 37) (.i ((S.steps:Int)+1))).C k.B 12 (.i S.now.meth):=N.sees.c12;have hm:=N8 k _ v S.now.meth _ f N;obtain⟨b0,b1⟩:=f.cm S.now.meth;have eS:Gk k.E S=Ch k.E (Fg k.E S.now).op (Fg k.E S.now).n (Mh k.E S):=rfl;rw[eS];have eB:Mh k.E S=(⟨S.read,S.objs,S.now,S.wait,S.ended,S.out,S.status,S.value,S.steps+1⟩:Bo).withNow ⟨S.now.meth,S.now.next,(Fg k.E S.now).place.toNat+Cd.wd (Fg k.E S.now).op,S.now.lo,S.now.st,S.now.h⟩:=rfl
 have eO:Fg k.E S.now=Cd.orZero (Cd.one (k.E.meth S.now.meth).code S.now.next):=rfl
 rw[eO]at F eB ⊢;generalize k.E.meth S.now.meth=M at *;have a1:Hid (∀w O Q bb,Bw k ⟨S.read,S.objs,S.now,S.wait,S.ended,S.out,S.status,S.value,S.steps+1⟩ v w->De w bb (.s O M.code.length Q) M.code->Calls prog 132 #[.q k.B 12,.s O M.code.length Q] w fun e A=>e=.r (.agg #[.i (Cd.orZero (Cd.one M.code S.now.next)).place,.i (Cd.orZero (Cd.one M.code S.now.next)).op,.i (Cd.orZero (Cd.one M.code S.now.next)).n]) /\
   Bw k (Mh k.E S) v A/\Gr k.B w A):=by
  intro w O Q bb h hi;refine(Bhh S.now M.code O Q bb k.B 12 156 _ _ w rfl h.wf h.blk b0 (fun x hx=>(b1 x hx).1) hi c3).mono fun e A ⟨he,J,hg⟩=>⟨he,?_,hg⟩;rw[eB];exact h.now f hg ⟨h.wf.lo,h.wf.st,h.wf.h⟩ J
 have b2:Ar (Mh k.E S):=⟨hF.ob,hF.wt,hF.rd,hF.ou⟩;generalize Mh k.E S=S1 at *;generalize Cd.orZero (Cd.one M.code S.now.next)=c4 at *
 obtain⟨t,op,n⟩:=c4;simp only at F a1 ⊢;have b3:=fun w h=>Boz k S1 v t op n w f h ⟨F.1,F.2.1⟩ F.2.2 b2;have HD:=Bc b3;have HM:=Bc hm;have H1:=Bc N;have d0:=h.blk.lt;clear h N hm b3 eS eB eO hF b2 F b0 b1;go_in;go_wp2_with fail;refine(Ba HM).mono ?_;rintro e z ⟨m,rfl,J,b4⟩;have h2:=(Ba H1).gr f b4;have b5:=J.cn;have a2:=J.code;obtain⟨m1,m2,m3,m4,m5,m6,m7,m8,m9,l,mb,p,md,me,mf,mg,mh,mi⟩:=m;simp only at b5 a2;subst b5;simp only[PM.val];have a3:Bl z (z.alloc (O18 m1 m2 m3 m4 m5 m6 m7 m8 m9 l M.code.length p md me mf mg mh mi)):=QN _;have h3:=h2.gr f a3;have b6:=a2.kp (Kp.of_below (e:=none) a3) Fm;have V:=Be z (O18 m1 m2 m3 m4 m5 m6 m7 m8 m9 l M.code.length p md me mf mg mh mi);have b7:z.heap.size≠k.B:=by have:=h2.blk.lt;omega
 have q7:=(Bb V 7).trans (show _=some (.s l M.code.length p) from rfl);have lQ:=Sp V;have Y:=Bc h3;have b8:=Bc b6;clear HM J b4 h2 H1 h3 a2 b6 a3;go_wp2;generalize z.alloc (O18 m1 m2 m3 m4 m5 m6 m7 m8 m9 l M.code.length p md me mf mg mh mi)=g at *;refine Br4 (S:=(fun A=>A.C z.heap.size 7 (.s l M.code.length p))) Lt q7 (fun b=>?_);refine tq 0 (.q k.B 0) b ?_;refine tq 1 (.q k.B 0) b ?_;refine tq 2 (.q k.B 12) b ?_;refine tq 3 (.q z.heap.size 7) b ?_;refine tq 4 (.s l M.code.length p) b ?_;refine Brv (rs:=[5,6]) Lt Hd ?_;refine Bri (o:=⟨_,_,_,_,_,_⟩) rfl (fun K c=>?_) (Bri (o:=⟨_,_,_,_,_,_⟩) rfl (fun K c=>?_) Bro)
 ·go_simp;refine Qm (Ba a1 _ _ _ _ ((Ba Y).drew f) (show De g.drew _ _ _ from Ba b8)) ?_;rintro w7 ⟨Z,a0⟩;have G:=a0.own (show g.drew.heap[_]?=_ from V) b7;have p7:=(Bb G 7).trans (show _=some (.s l M.code.length p) from rfl);have c5:=Bg G (O15 0 0 0);have p8:=(Bb c5 7).trans (show _=some (.s l M.code.length p) from rfl);have a4:=Bg G (O15 t op n);have L:=(Bb a4 7).trans (show _=some (.s l M.code.length p) from rfl);have a5:=Z.gr f (QN (O15 t op n))
  try dsimp only
  clear b;refine c.out _ _ p7 (fun b=>?_);clear c K
  try simp only[QX]
  refine tr 6 fun K c=>?_;go_simp;clear b;refine c.out _ _ p8 (fun b=>?_);clear c K
  try simp only[QX]
  refine tr 7 fun K c=>?_;go_simp;clear b;refine c.out _ _ (by first|exact L | simpa using L) (fun b=>?_)
  clear c K
  try simp only[QX]
  refine Bsg Lt ?_ _;clear b;go_wp2_with fail;refine Qm (Ba HD _ a5) ?_;rintro w9 ⟨I,h9⟩;go_wp2;go_end0;exact⟨rfl,I,h9⟩
 go_simp;have a6:Bl g (g.drew.alloc (O15 0 0 0)):=(Brm _ _).drew.alloc (Bru _) _;have b9:=stay a6 V;have p7:=(Bb b9 7).trans (show _=some (.s l M.code.length p) from rfl);have hZ:(g.drew.alloc (O15 0 0 0)).heap[g.heap.size]?=_:=Be g.drew (O15 0 0 0);clear b;refine c.out _ _ p7 (fun b=>?_);clear c K
 try simp only[QX]
 refine tr 5 fun K c=>?_;go_simp;refine Qm (Ba a1 _ _ _ _ ((Ba Y).gr f a6) ((Ba b8).kp (Kp.of_below (e:=none) a6) Fm)) ?_;rintro w7 ⟨Z,a0⟩;have G:=a0.own b9 b7;have p8:=(Bb G 7).trans (show _=some (.s l M.code.length p) from rfl);have D:=a0.own hZ (by have:=(Ba Y).blk.lt;show g.heap.size≠k.B;omega);have d1:=Sp D;have y0:=(Bb D 0).trans (show _=some (.i 0) from rfl);have y1:=(Bb D 1).trans (show _=some (.i 0) from rfl);have y2:=(Bb D 2).trans (show _=some (.i 0) from rfl);obtain⟨x0,x1,x2⟩:=fr3 D
 try dsimp only
 clear b;refine c.out _ _ p8 (fun b=>?_);clear c K
 try simp only[QX]
 refine tr 7 fun K c=>?_;go_simp;have a7:k.w0.heap.size<=g.heap.size:=(Ba Y).rows.szs;have c0:=Z.other f (cs:=[.i 0,.i 0,.i 0]) D a7 0 (.i t);have a8:=Bt (i:=0) D (.i t);have c1:=c0.other f (cs:=[.i t,.i 0,.i 0]) a8 a7 1 (.i op);have c2:=Bt (i:=1) a8 (.i op);have a5:=c1.other f (cs:=[.i t,.i op,.i 0]) c2 a7 2 (.i n);have a9:z.heap.size≠g.heap.size:=Ck;have a4:=((Brk _ ⟨g.heap.size,2,none⟩ (.i n) _ a9).trans ((Brk _ ⟨g.heap.size,1,none⟩ (.i op) _ a9).trans ((Brk w7 ⟨g.heap.size,0,none⟩ (.i t) _ a9).trans G)));have L:=(Bb a4 7).trans (show _=some (.s l M.code.length p) from rfl);clear c0 c1 a8 c2 Z;clear b;refine c.out _ _ (by first|exact L | simpa using L) (fun b=>?_)
 clear c K
 try simp only[QX]
 refine Bsg Lt ?_ _;clear b;go_wp2_with fail;refine Qm (Ba HD _ a5) ?_;rintro w9 ⟨I,h9⟩;go_wp2;go_end0;exact⟨rfl,I,h9⟩
def Pp:Nat->List (Int × List Int)
 | 0=>[]
 | j+1=>Pp j++[((j:Int)+2,[])]
def Og:Nat->List Value
 | 0=>[]
 | j+1=>Og j++[.slice none 0 0]
def Bkk:∀j,(Pp j).length=j
 | 0=>rfl
 | j+1=>by simp[Pp,Bkk j]
def Bju:∀j,(Og j).length=j
 | 0=>rfl
 | j+1=>by simp[Og,Bju j]
def Be1(h:Int)(w:TW):Calls prog 83 #[.i h] w fun e N=>∃f g,e=.r (.agg #[.s f 5 g,.i h])/\N.ownsRow w.heap.size 215 2 (.s f 5 g) 5 (ocells (Pp 5) (Og 5))/\Bl w N:=by
 obtain⟨i0,hi,a1,a2,a3⟩:=Bsa Tryz.infoObj;have O:=Bu w (O28 none 0 0 0) (O28 none 0 0 h);have Q:=Cb w (O28 none 0 0 0) (O28 none 0 0 h);have V:=Bx w (O28 none 0 0 0) (O28 none 0 0 h);go_in;go_wp2
 go_loopw [4] (fun c wr=>∃(j:Nat) (f:TA) (g:Nat),j<=5/\c=.i ((j:Int)+2)/\wr.ownsRow (w.heap.size+2) 215 2 (.s f j g) j (ocells (Pp j) (Og j))/\wr.heap[w.heap.size+1]?=some (O28 f j g h)/\wr.heap[w.heap.size]?=some (O28 none 0 0 0)/\Bl w wr)
  (fun c _=>7-(intOf c).toNat)
 case atStart=>exact⟨0,none,0,Ck,rfl,Brw _ _ _ _,V,Q,O⟩
 case round=>
  clear O Q V;obtain⟨j,f,g,hj,rfl,m,t,B,l⟩:=hrel;have y0:=(Bb t 0).trans (show _=some (.s f j g) from rfl);have y1:=(Bb t 1).trans (show _=some (.i h) from rfl);have f0:=Bk t 0;have lH:=Sp t;have a9:=l.size;by_cases b0:j<5
  ·go_wp2_with (at_builtin;refine Btl _ rfl _ _ 146 rfl (w.heap.size+2) 215 i0 _ 2 32 underlying146 hi a1 a2 a3 rfl Fm _ _ _ rfl (m.alloc _) ⟨wr.heap.size,0,none⟩ 1 1 [.i ((j:Int)+2),.s none 0 0] rfl rfl ?c1 ?c2 ?c3 ?c4 ?c5 ?_)
   case c1=>exact Dh _ _ _ _ rfl
   case c2=>intro u Y;simp at Y;rcases Y with rfl|rfl<;>rfl
   case c3=>unfold maxLen;omega
   case c4=>omega
   case c5=>simp;omega
   intro v' D J C _ a4;obtain⟨v,z,rfl⟩:=Bh J;have G:∀q,q<w.heap.size+2->D.heap[q]?=wr.heap[q]?:=fun q A=>(C.block q Fr (fun e=>by have:=(m.lt q e.symm).1;omega)).trans (Br2 _ _ _ Ck);have I:=(G _ Ck).trans t;have Z:=(G _ Ck).trans B;have a0:Bl w D:=⟨C.os.trans l.os,C.tape.trans l.tape,C.output.trans l.output,Br5 l.size (Br5 Hd C.size),fun q A=>(G q Ck).trans (l.block q A)⟩;have x0:=(Bb I 0).trans (show _=some (.s f j g) from rfl);have g0:=Bk I 0;have b1:=Sp I;have K:D.ownsRow (w.heap.size+2) 215 2 (.s v (j+1) z) (j+1) (ocells (Pp (j+1)) (Og (j+1))):=by
    rw[Pp,Og,Vs _ _ (by rw[Bkk,Bju])];exact J
   have a5:=Bt (i:=0) I (.s v (j+1) z);have F:(D.setCell (.a (w.heap.size+1) 0) (.s v (j+1) z)).ownsRow (w.heap.size+2) 215 2 (.s v (j+1) z) (j+1) (ocells (Pp (j+1)) (Og (j+1))):=Fz K (fun q A=>Brk _ _ _ _ (by have:=(K.lt q A).1;simp;omega));have a6:(D.setCell (.a (w.heap.size+1) 0) (.s v (j+1) z)).heap[w.heap.size]?=_:=(Brk _ _ _ _ Hd).trans Z;have a7:=Bc (a0.setCell (p:=.a (w.heap.size+1) 0) Hd (.s v (j+1) z));have L:=Bc F;clear J C a4 G K F m l t B a0 Z;go_wp2;go_roundw
   case rel=>exact⟨j+1,v,z,Ck,Mg,Ba L,a5,a6,Ba a7⟩
   case measure=>simp[intOf];omega
  have a8:j=5:=Ck;subst a8;obtain⟨r0,r1⟩:=cl2 B;obtain⟨q0,q1⟩:=fr2 B;have lR:=Sp B;simp at r0 r1;have F:∀a b,((wr.setCell (.a w.heap.size 0) a).setCell (.a w.heap.size 1) b).ownsRow w.heap.size 215 2 (.s f 5 g) 5 (ocells (Pp 5) (Og 5)):=fun a b=>D6 (Fz m (fun q A=>(Brk _ _ _ _ (by have:=(m.lt q A).1;simp;omega)).trans (Brk _ _ _ _ (by have:=(m.lt q A).1;simp;omega)))) Ck;have L:=Bc F;clear m F t B;go_wp2;refine tb (.agg #[.s f 5 g,.i h]) (by simp[results,results83,go_sem,r0,r1]) ?_;exact⟨f,g,rfl,Ba L _ _,(l.setCell Hd _).setCell Hd _⟩
def Tryz.infoMach:(prog.info? 156).map (·.size)=some 38:=Lt
def Bmr(b c e f g h j l m p q t v z A B C D F G I J K L N O Q V Y Z b9:TX)(w:TW):(Instr.build 156 #[(0,.agg #[b,c]),(1,.agg #[e,f]),(2,.agg #[g,h,j,l,m]),(4,.agg #[p,q]),(5,.agg #[t,v,z,A,B,C,D,F,G,I,J,K,L,N,O,Q,V,Y,Z,b9])]).run prog w=.ok (.agg #[b,c,e,f,g,h,j,l,m,.i 0,p,q,t,v,z,A,B,C,D,F,G,I,J,K,L,N,O,Q,V,Y,Z,b9,.s none 0 0,.bool false,.s none 0 0,.i 0,.i 0,.i 0]) w:=Lt
def Id (p0 p1 p2 p3 p4 p5 p6 p7 p8 p9 p10:TX)(c:TV):List Value:=[p0,p1,p2,p3,p4,p5,p6,p7,p8,.int .i64 0,p9,p10]++(c++[.slice none 0 0,.bool false,.slice none 0 0,.int .i64 0,.int .i64 0,.int .i64 0])
def Bql(b e f g i j l m p q s:TX)(c:TV)(h:c.length=20)(w:TW):(Instr.build 156 #[(0,.agg #[b,e]),(1,.agg #[f,g]),(2,.agg #[i,j,l,m,p]),(4,.agg #[q,s]),(5,.agg c.toArray)]).run prog w=.ok (.agg (Id b e f g i j l m p q s c).toArray) w:=by
 match c,h with
 | [a0,a1,a2,a3,a4,a5,a6,a7,a8,a9,b0,b1,b2,b3,b4,b5,b6,b7,b8,b9],_=>exact Bmr _ _ _ _ _ _ _ _ _ _ _ _ _ _ _ _ _ _ _ _ _ _ _ _ _ _ _ _ _ _ _ w
def Od{t:Array Oper}{S:TW->Prop}{op:Oper}{a:Act}(D:Region.wanted op (yielded t a.tmps)=true)(v z A B C:Operand)(F:op.op=.build 156 #[(0,v),(1,z),(2,A),(4,B),(5,C)]) (b e f g i j l m p q s:TX)(c:TV)(h:c.length=20)(G:a.eval v=.agg #[b,e])(I:a.eval z=.agg #[f,g])(J:a.eval A=.agg #[i,j,l,m,p])(K:a.eval B=.agg #[q,s])(L:a.eval C=.agg c.toArray):YieldsIf prog t S op (.agg (Id b e f g i j l m p q s c).toArray) a :=
 .inl ⟨D,fun w _=>by
  unfold execOp;simp only[F,List.map_toArray,Bsw,Buu,G,I,J,K,L,Bw4,Bql b e f g i j l m p q s c h w,Bv2,Bw5]⟩
def Np:Obj:=.cells (Id (.slice none 0 0) (.slice none 0 0) (.slice none 0 0) (.slice none 0 0) (.int .i64 0) (.slice none 0 0) (.int .i64 0) (.int .i64 0) (.int .i64 0) (.slice none 0 0) (.int .i64 0) (⟨0,0,0,Ig,Ig,0⟩:Bi).cells).toArray 156 (0,0)
def Bby(w:TW):(Instr.alloc 156 true (.tuple #[])).run prog w=.ok (.q w.heap.size 0) (w.alloc Np):=Lt
def Nx{b:Array Oper}{o:Oper}{a:Act}{w:TW}{K:Act->TW->Prop}{Q:Exit->Act->TW->Prop}{E:Prop}(c:o.guard=none)(e:o.op=.alloc 156) (h:K (a.put o.dst (.q w.heap.size 0)) (w.alloc Np)):if Region.wanted o (yielded b a.tmps)=true then Oper.wp prog o a w K Q else E:=by
 have f:Region.wanted o (yielded b a.tmps)=true:=by simp[Region.wanted,c]
 rw[Th f];unfold Oper.wp execOp;simp only[e,Bw4,Bby,Bv2,Bw5];exact h
structure Ix where
 fa:Option Addr
 fn:Nat
 fc:Nat
 ma:Option Addr
 mc:Nat
 entry:Int
 ia:Option Addr
 ic:Nat
 ins:List Int
 room:Int
 depth:Int
 fuel:Int
 lcs:List (Rd.Cls × Value)
 lms:List (Rd.Mth × Ex)
def Ix.cells(p:Ix)(tg tc:Nat)(ya:TA)(yn yc:Nat)(oa:TA)(oc:Nat)(c:TV):List Value :=
 Id (.slice p.fa p.fn p.fc) (.slice p.ma p.lms.length p.mc) (.slice (some ⟨tg,0,none⟩) (Tr.tree (p.lcs.map Prod.fst)).length tc) (.slice ya yn yc) (.int .i64 p.entry) (.slice p.ia p.ins.length p.ic) (.int .i64 p.room) (.int .i64 p.depth) (.int .i64 p.fuel) (.slice oa 5 oc) (.int .i64 p.room) c
def Y0 (p:Ix)(w wx:TW)(B:Nat):Prop:=∃tg tc ya yc oa oc,
 wx.heap[B]?=some (.cells (p.cells tg tc ya (7+p.lcs.length) yc oa oc (Cn p.entry []).cells).toArray 156 (0,0))/\Dy wx tg (Tr.tree (p.lcs.map Prod.fst))/\tg≠B /\
 wx.ownsRow w.heap.size 105 1 (.slice ya (7+p.lcs.length) yc) (7+p.lcs.length) (Tr.fvals p.lcs)/\wx.ownsRow w.heap.size 215 2 (.slice oa 5 oc) 5 (ocells (Pp 5) (Og 5)) /\
 wx.heap[w.heap.size+1]?=some (O29 p.entry p.ia p.ins.length p.ic p.room p.depth p.fuel)/\wx.heap[w.heap.size+2]?=some (O30 none 0 0 0 0 0)/\Below w.heap.size w wx/\w.heap.size+2<B
theorem Bgb{w:World}{u b t:Nat}{l v:Value}(f:w.cell? ⟨u,t,none⟩=some l)(c:w.cell? ⟨b,t,none⟩=some v)(j:l≠v):u≠b:=fun e=>by
 subst e;rw[f]at c;exact j (by simpa using c)
def Vy{p:Ix}{w wd c:TW}{u b tc yn yc h:Nat}{ya l:TA}(z:wd.heap[w.heap.size+1]?=some (O29 p.entry p.ia p.ins.length p.ic p.room p.depth p.fuel))(A:wd.heap[w.heap.size+2]?=some (O30 none 0 0 0 0 0))(J:Bl w wd)(m:Bl wd c)(D:c.heap[u]?=some Np)(K:w.heap.size+2<u) (q:Dy c b (Tr.tree (p.lcs.map Prod.fst)))(t:c.ownsRow w.heap.size 105 1 (.s ya yn yc) (7+p.lcs.length) (Tr.fvals p.lcs))(F:c.ownsRow w.heap.size 215 2 (.s l 5 h) 5 (ocells (Pp 5) (Og 5))):Y0 p w (c.setRow u (p.cells b tc ya yn yc l h (Cn p.entry []).cells).toArray) u:=by
 obtain⟨Q,V,G⟩:=Bh t;simp only[Value.slice.injEq]at G;obtain⟨rfl,rfl,rfl⟩:=G;have g:=QB J m;have f:∀j,j≠u->(c.setRow u (p.cells b tc ya (7+p.lcs.length) yc l h (Cn p.entry []).cells).toArray).heap[j]?=c.heap[j]?:=fun j e=>Dm e;have L:0<(Tr.tree (p.lcs.map Prod.fst)).length:=by rw[Ie];omega
 have N:c.C u 0 (.s none 0 0):=(Bb D 0).trans rfl;have I:b≠u:=Bgb (q.2 0 L) N Hd;have v:c.heap[u]?=some (.cells (Id (.s none 0 0) (.s none 0 0) (.s none 0 0) (.s none 0 0) (.i 0) (.s none 0 0) (.i 0) (.i 0) (.i 0) (.s none 0 0) (.i 0) (⟨0,0,0,Ig,Ig,0⟩:Bi).cells).toArray 156 (0,0)):=D;refine⟨b,tc,ya,yc,l,h,Vl v,⟨by rw[Bwq];exact q.1,fun i O=>(Brr (a:=⟨b,i,none⟩) (f b I)).trans (q.2 i O)⟩,I,Fz t (fun j e=>f j (Fl t v Fm j e)),Fz F (fun j e=>f j (Fl F v Fm j e)),
  (f _ Ck).trans ((m.block _ (Sp z)).trans z),(f _ Ck).trans ((m.block _ (Sp A)).trans A),?_,K⟩
 exact⟨g.os,g.tape,g.output,by rw[Bwq];exact g.size,fun j e=>(f j Ck).trans (g.block j e)⟩
def Ix.E (p:Ix):Dn:=⟨Tr.tree (p.lcs.map Prod.fst),(Ka p.lcs).map Prod.snd,p.lms.map Prod.fst,p.ins,p.room,p.depth⟩
structure Ix.Good(p:Ix)(w:World)(bc bm:Nat):Prop where
 cs:Fh w bc (.slice p.fa p.fn p.fc) p.lcs
 c6:p.lcs.length<=6
 ff:∀q∈p.lcs,q.1.fields.length<=10
 ms:Eb w bm (.slice p.ma p.lms.length p.mc) p.lms
 ml:p.lms.length<=1000
 cd:∀q∈p.lms,q.1.code.length<=1000/\∀x∈q.1.code,0<=x/\x<=255
 ps:∀q∈p.lms,q.1.params.length<=10
 hn:∀q∈p.lms,q.1.handlers.length<=1000/\∀h∈q.1.handlers,0<=h.target/\h.target<=1000
 ins:Ft w p.ia p.ins
 il:p.ins.length<=1000
 dep:1<=p.depth/\p.depth<=12
 rm:0<=p.room/\p.room<=30
 fu:0<=p.fuel/\p.fuel<=3000
theorem Bno{p:Ix}{w s:World}{u b t:Nat}(f:p.Good w b t)(h:Y0 p w s u):∃(k:Cw) (v:Dd),k.Ok/\k.B=u/\k.wE=w/\k.w0=s/\k.E=p.E/\k.fuel=p.fuel/\Bw k (Gb p.entry) v s/\s.heap[w.heap.size+1]?=some (O29 p.entry p.ia p.ins.length p.ic p.room p.depth p.fuel)/\s.heap[w.heap.size+2]?=some (O30 none 0 0 0 0 0)/\k.ob≠w.heap.size+1/\k.ob≠w.heap.size+2/\w.heap.size+2<u:=by
 obtain⟨K,tc,ya,yc,L,N,C,O,a0,a1,D,Q,V,F,a2⟩:=h;obtain⟨l,Y,a3,a4,a5⟩:=Cf D Ck;have z:∃cs:List Value,s.heap[l]?=some (.cells cs.toArray 215 (0,0)):=by
  obtain⟨_,⟨_,hn⟩|⟨g',b0,a6,G,_,a7,_⟩⟩:=D
  ·omega
  rw[Y]at G;simp only[Value.slice.injEq,Option.some.injEq,Addr.mk.injEq,Br8]at G;obtain⟨rfl,_⟩:=G;exact⟨a6.toList,by simpa using a7⟩
 obtain⟨b1,z⟩:=z;have b2:(Tr.tree (p.lcs.map Prod.fst)).length=7+p.lcs.length:=by rw[Ie,Br1]
 have b3:=f.c6;have a8:s.cell? ⟨l,0,none⟩=some (.int .i64 2):=by rw[a5 0 Fm];rfl
 have a9:s.cell? ⟨K,0,none⟩=some (.int .i64 (-1)):=by rw[O.2 0 Ck];rfl
 have Z:=Aa p.lcs;have I:∀q∈Ka p.lcs,TyR w q.1 q.2/\q.2.length<=10:=by
  intro q g;unfold Ka at g;rcases List.mem_append.1 g with g|g
  ·obtain⟨_,rfl⟩:=List.mem_replicate.1 g;exact⟨TyR.nil _,Hd⟩
  obtain⟨x,hx,rfl⟩:=List.mem_map.1 g;exact⟨TyR.of_tys (f.cs.2 x hx),f.ff x hx⟩
 have J:s.ownsRow w.heap.size 105 1 (.slice ya (Ka p.lcs).length yc) (Ka p.lcs).length ((Ka p.lcs).map Prod.fst):=by rw[Bku,Z];exact a1
 refine⟨⟨u,l,s,w,p.fa,p.fn,p.fc,p.ma,p.mc,K,tc,ya,yc,t,w.heap.size,Tr.tree (p.lcs.map Prod.fst),Ka p.lcs,p.lms,p.entry,p.ia,p.ic,p.ins,p.room,p.depth,p.fuel⟩,⟨L,N,none,0,none,0,Og 5⟩,?_,rfl,rfl,rfl,rfl,rfl,?_,Q,V,?_,?_,a2⟩
 ·exact⟨O,by show (Tr.tree _).length<=1000;omega,⟨J,fun q g=>(I q g).1.below F⟩,by show (Ka p.lcs).length<=14;omega,fun q g=>(I q g).2,f.ms,f.ml,f.cd,f.ps,f.hn,f.ins,f.il,f.dep,f.rm,f.fu,
   ⟨a0,Bgb a9 a8 Hd⟩,fun j m=>⟨Fl J C Fm j m,Fl J z Fm j m⟩,
   fun q g j m=>by have:=(I q g).1.blk_lt m;exact⟨by show j≠u;omega,by show j≠l;omega⟩,F.size,⟨Sp C,a3,by show w.heap.size<=u;omega,a4⟩⟩
 ·refine⟨?_,Ph _ _,⟨?_,rfl,fun j m=>?_,fun i hi=>?_,Brw _ _ _ _,fun c hc=>by simp[Gb]at hc,Brw _ _ _ _,(show ([]:List Nat).Nodup from List.nodup_nil),fun _ _ _ _=>rfl,F,Bru _⟩⟩
  ·unfold Mid;rw[C];simp only[Ix.cells,Id,Iv,Gy,Gb,Z];rfl
  ·exact D
  ·have:some l=some j:=by rw[<- m];show _=(Value.slice L _ N).ownBlock;rw[Y];rfl
   exact .inl (by simpa using this.symm)
  have b4:i<5:=hi;have:i=0\/i=1\/i=2\/i=3\/i=4:=Ck;rcases this with rfl|rfl|rfl|rfl|rfl<;>exact Brw _ _ _ _
 ·intro e;have A:s.heap[l]?=_:=z;rw[show l=w.heap.size+1 from e,Q]at A;simp at A
 intro e;have A:s.heap[l]?=_:=z;rw[show l=w.heap.size+2 from e,V]at A;simp at A
def Rb (E:Dn)(f:Nat)(S R:Bo):Prop:=(S.ended=true->S=R)/\(S.ended=false->S.steps<=f/\Et E S/\S.out.length<=S.steps/\Nr (In E (f-S.steps) S)=R)
def Bm3{E:Dn}{u:Nat}{S R:Bo}(h:Rb E u S R)(c:S.ended=false)(e:u<=S.steps):S.fin 1 0=R:=by
 obtain⟨g,i,j,b⟩:=h.2 c;rw[show u-S.steps=0 by omega]at b;unfold Nr In at b;rw[Pk (by rw[c];simp)]at b;exact b
def Bka{E:Dn}(g:E.Small){u:Nat}{S R:Bo}(h:Rb E u S R)(c:S.ended=false)(l:¬u<=S.steps):Rb E u (Gk E S) R:=by
 obtain⟨m,i,p,b⟩:=h.2 c;obtain⟨q,j,s⟩:=Rr E S;rw[show u-S.steps=(u-(Gk E S).steps)+1 by omega,In,Pk (by rw[c];simp)]at b;refine⟨fun e=>?_,fun e=>⟨Ck,Bft g i,?_,b⟩⟩
 ·rw[Wr E _ e]at b;unfold Nr at b;rw[Th e]at b;exact b
 rcases j with e|⟨x,e⟩
 ·rw[e];omega
 rw[e];simp;omega
def Cw.Ok.hb{k:Cw}(c:k.Ok)(n:Int):∀x∈(k.E.meth n).handlers,0<=x.target/\x.target<=1000:=by
 unfold Dn.meth
 split
 ·simp[Ef]
 split
 ·simp[Ef]
 rename_i f g;have h:k.E.ms.length=k.lms.length:=by simp[Cw.E]
 have b:n.toNat<k.lms.length:=Ck;have e:k.E.ms.getD n.toNat Ef=k.lms[n.toNat].1:=by
  rw[Vm];simp[Cw.E,b]
 rw[e];exact(c.hn _ (Brn b)).2
def Bii (k:Cw)(f:Nat)(w:TW):Nat:=match w.cell? ⟨k.B,33,none⟩ with
 | some (.bool true)=>0
 | _=>match w.cell? ⟨k.B,37,none⟩ with
  | some (.int _ n)=>f-n.toNat+1
  | _=>0
def Bw.mr{k:Cw}{S:Bo}{v:Dd}{w:TW}(h:Bw k S v w)(f:Nat):Bii k f w=if S.ended=true then 0 else f-S.steps+1:=by
 unfold Bii;rw[h.sees.c33,h.sees.c37];cases S.ended<;>simp
def Bmo(p:Ix)(bc bm:Nat)(w:TW)(hg:p.Good w bc bm)(R:Bo)(hR:Oc p.E p.fuel.toNat p.entry=R):Calls prog 55 #[.agg #[.s p.fa p.fn p.fc,.s p.ma p.lms.length p.mc],.agg #[.i p.entry,.s p.ia p.ins.length p.ic,.i p.room,.i p.depth,.i p.fuel]] w fun e w' => ∃xa xc,e=.r (.agg #[.s xa R.out.length xc,.i R.status,.i R.value,.i (R.steps:Int)])/\De w' w.heap.size (.s xa R.out.length xc) R.out/\Bl w w':=by
 have a5:Bl w (((w.alloc (O1 p.fa p.fn p.fc p.ma p.lms.length p.mc)).alloc (O29 p.entry p.ia p.ins.length p.ic p.room p.depth p.fuel)).alloc (O30 none 0 0 0 0 0)):=(((QN _).alloc Hd _).alloc Fr _);have CF:(((w.alloc (O1 p.fa p.fn p.fc p.ma p.lms.length p.mc)).alloc (O29 p.entry p.ia p.ins.length p.ic p.room p.depth p.fuel)).alloc (O30 none 0 0 0 0 0)).heap[w.heap.size]?=some (O1 p.fa p.fn p.fc p.ma p.lms.length p.mc):=Bg (Cb w _ _) _;have CS:(((w.alloc (O1 p.fa p.fn p.fc p.ma p.lms.length p.mc)).alloc (O29 p.entry p.ia p.ins.length p.ic p.room p.depth p.fuel)).alloc (O30 none 0 0 0 0 0)).heap[w.heap.size+1]?=some (O29 p.entry p.ia p.ins.length p.ic p.room p.depth p.fuel):=Bg (Bx w _ _) _;have CR:(((w.alloc (O1 p.fa p.fn p.fc p.ma p.lms.length p.mc)).alloc (O29 p.entry p.ia p.ins.length p.ic p.room p.depth p.fuel)).alloc (O30 none 0 0 0 0 0)).heap[w.heap.size+2]?=some (O30 none 0 0 0 0 0):=by
  have:=Be ((w.alloc (O1 p.fa p.fn p.fc p.ma p.lms.length p.mc)).alloc (O29 p.entry p.ia p.ins.length p.ic p.room p.depth p.fuel)) (O30 none 0 0 0 0 0);simpa using this
 have d8:=fun W (hb:Bl w W)=>Sf p.fa p.ma p.fn p.fc p.lms.length p.mc bc p.lcs W hg.c6 (hg.cs.kp (Kp.of_below (e:=none) hb) Fm Fm);have HG:=Bc hg;have d9:=Bc hR;have a4:(Cn p.entry []).cells.length=20:=(Ph p.entry []).len;have f2:=fun W=>Xw p.entry none 0 [] 0 W Hd (Brw W 0 3 1);have f3:=fun W=>Be1 p.room W;have HT:Hid (∀W,Bl w W->Calls prog 69 #[.agg #[.s p.fa p.fn p.fc,.s p.ma p.lms.length p.mc]] W fun e w'=>∃g h8 ya yn yc,e=.r (.agg #[.s (.p g) (Tr.tree (p.lcs.map Prod.fst)).length h8,.s ya yn yc])/\Dy w' g (Tr.tree (p.lcs.map Prod.fst))/\w'.ownsRow W.heap.size 105 1 (.s ya yn yc) (7+p.lcs.length) (Tr.fvals p.lcs)/\W.heap.size<=g/\Bl W w'):=d8;have HH:=Bc f3;have HC:=Bc f2;have c2:∀I tc ya yn yc F G,(prog.info? 156).map (·.size)=some (p.cells I tc ya yn yc F G (Cn p.entry []).cells).toArray.size:=fun I tc ya yn yc F G=>by rw[Tryz.infoMach];simp[Ix.cells,Id,a4]
 have c3:∀I tc ya yn yc F G,(p.cells I tc ya yn yc F G (Cn p.entry []).cells).toArray.all (·.oneCell')=true:=fun I tc ya yn yc F G=>Bui (fun u hu=>by
  simp only[Ix.cells,Id,Bs1,Bub,Buh,Bv8]at hu;rcases hu with (rfl|rfl|rfl|rfl|rfl|rfl|rfl|rfl|rfl|rfl|rfl|rfl)|hu|rfl|rfl|rfl|rfl|rfl|rfl
  all_goals first|rfl|exact Nl _ _ hu)
 clear hg hR d8 f2 f3;go_in
 go_upto_region 1 with fail
 generalize h9:((w.alloc (O1 p.fa p.fn p.fc p.ma p.lms.length p.mc)).alloc (O29 p.entry p.ia p.ins.length p.ic p.room p.depth p.fuel)).alloc (O30 none 0 0 0 0 0)=wd at *;clear h9
 go_cut [5] from 17 (fun s5 wx=>∃B,s5=.q B 0/\Y0 p w wx B)
 case first=>
  have O:=(Bb CF 0).trans (show _=some (.s p.fa p.fn p.fc) from rfl);have Q:=(Bb CF 1).trans (show _=some (.s p.ma p.lms.length p.mc) from rfl);have V:=(Bb CS 0).trans (show _=some (.i p.entry) from rfl);have Y:=(Bb CS 1).trans (show _=some (.s p.ia p.ins.length p.ic) from rfl);have Z:=(Bb CS 2).trans (show _=some (.i p.room) from rfl);have s3:=(Bb CS 3).trans (show _=some (.i p.depth) from rfl);have L:=(Bb CS 4).trans (show _=some (.i p.fuel) from rfl);have A:=Sp CF;have f:=Sp CS;have lR:=Sp CR;have b1:=a5.size;have c4:Bl wd wd.drew:=(Brm _ _).drew;go_wp2;refine Br4 (S:=(fun w'=>w'.C w.heap.size 0 (.s p.fa p.fn p.fc)/\w'.C w.heap.size 1 (.s p.ma p.lms.length p.mc)/\w'.C (w.heap.size+1) 0 (.i p.entry)/\w'.C (w.heap.size+1) 1 (.s p.ia p.ins.length p.ic)/\w'.C (w.heap.size+1) 2 (.i p.room)/\w'.C (w.heap.size+1) 3 (.i p.depth)/\w'.C (w.heap.size+1) 4 (.i p.fuel))) Lt ⟨O,Q,V,Y,Z,s3,L⟩ (fun t=>?_);refine tq 0 (.agg #[.s p.fa p.fn p.fc,.s p.ma p.lms.length p.mc]) t ?_;refine tq 1 (.agg #[.s p.fa p.fn p.fc,.s p.ma p.lms.length p.mc]) t ?_;refine tq 3 (.agg #[.i p.entry,.s p.ia p.ins.length p.ic,.i p.room,.i p.depth,.i p.fuel]) t ?_;refine tq 4 (.q (w.heap.size+1) 2) t ?_;refine tq 5 (.i p.room) t ?_;refine tq 7 (.q (w.heap.size+1) 0) t ?_;refine tq 8 (.i p.entry) t ?_;refine Brv (rs:=[2,11]) Lt Hd ?_;refine Bri (o:=⟨_,_,_,_,_,_⟩) rfl (fun K m=>?_) (Bri (o:=⟨_,_,_,_,_,_⟩) rfl (fun K m=>?_) Bro)
  ·go_simp;refine(Ba HT _ (a5.trans (c4.mono b1))).mono ?_;rintro e u1 ⟨I,tc,ya,yn,yc,rfl,f4,c5,-,i0⟩;have f5:=D6 (base':=w.heap.size) c5 (Br5 b1 c4.size);clear c5
   try dsimp only
   have J:=QB c4 i0;clear t;refine m.out _ _ ⟨QC J A O,QC J A Q,QC J f V,QC J f Y,QC J f Z,QC J f s3,QC J f L⟩ (fun t=>?_);clear m K
   try simp only[QX]
   refine Brv (rs:=[6,11]) Lt Hd ?_;refine Bri (o:=⟨_,_,_,_,_,_⟩) rfl (fun K m=>?_) (Bri (o:=⟨_,_,_,_,_,_⟩) rfl (fun K m=>?_) Bro)
   ·go_simp;refine(Ba HH _).mono ?_;rintro e u2 ⟨F,G,rfl,a6,b9⟩;have f6:=D6 (base':=w.heap.size) a6 (Br5 b1 J.size);clear a6
    try dsimp only
    have D:=QB J b9;have c0:=f4.below b9;have c1:=Dc f5 (Kp.of_below (e:=none) b9) Fm;clear t;refine m.out _ _ ⟨QC D A O,QC D A Q,QC D f V,QC D f Y,QC D f Z,QC D f s3,QC D f L⟩ (fun t=>?_);clear m K
    try simp only[QX]
    refine Brv (rs:=[9,11]) Lt Hd ?_;refine Bri (o:=⟨_,_,_,_,_,_⟩) rfl (fun K m=>?_) (Bri (o:=⟨_,_,_,_,_,_⟩) rfl (fun K m=>?_) Bro)
    ·go_simp;refine Qm (Ba HC _) ?_;intro u3 a2
     try dsimp only
     have z:=QB D a2;have b2:=c0.below a2;have b3:=Dc c1 (Kp.of_below (e:=none) a2) Fm;have b4:=Dc f6 (Kp.of_below (e:=none) a2) Fm;clear t;refine m.out _ _ ⟨QC z A O,QC z A Q,QC z f V,QC z f Y,QC z f Z,QC z f s3,QC z f L⟩ (fun t=>?_);clear m K
     try simp only[QX]
     refine Bun (i:=10) (oi:=⟨_,_,_,_,_,_⟩) (v:=.agg (p.cells I tc ya yn yc F G (Cn p.entry []).cells).toArray) rfl Lt Lt Lt (fun _ _ _ h=>h) (Od Ls _ _ _ _ _ Ls _ _ _ _ _ _ _ _ _ _ _ (Cn p.entry []).cells a4 Ls Ls Ls Ls Ls) t ?_
     try simp only[QX]
     refine tr 11 fun K m=>?_;refine Nx Ls Ls ?_;have a1:Bl u3 (u3.alloc Np):=QN _;have l:=QB z a1;have a3:=Be u3 Np;have a7:w.heap.size+2<u3.heap.size:=Brs lR z.size;have b5:=b2.below a1;have b6:=Dc b3 (Kp.of_below (e:=none) a1) Fm;have b7:=Dc b4 (Kp.of_below (e:=none) a1) Fm;clear t;refine m.out _ _ ⟨QC l A O,QC l A Q,QC l f V,QC l f Y,QC l f Z,QC l f s3,QC l f L⟩ (fun t=>?_);clear m K
     try simp only[QX]
     refine tr 12 fun K m=>?_;refine Kg Ls 156 _ _ Ls u3.heap.size (p.cells I tc ya yn yc F G (Cn p.entry []).cells).toArray Ls Ls 156 _ a3 (c2 I tc ya yn yc F G) (by simp[Ix.cells,Id,a4];rfl) (c3 I tc ya yn yc F G) ?_;have b8:=Vy (tc:=tc) CS CR a5 l a3 a7 b5 b6 b7;clear t;refine m.out _ _ ⟨(Brr (a:=⟨w.heap.size,0,none⟩) (Dm (by have:=a7;show w.heap.size≠_;omega))).trans (QC l A O),(Brr (a:=⟨w.heap.size,1,none⟩) (Dm (by have:=a7;show w.heap.size≠_;omega))).trans (QC l A Q),(Brr (a:=⟨w.heap.size+1,0,none⟩) (Dm (by have:=a7;show w.heap.size+1≠_;omega))).trans (QC l f V),(Brr (a:=⟨w.heap.size+1,1,none⟩) (Dm (by have:=a7;show w.heap.size+1≠_;omega))).trans (QC l f Y),(Brr (a:=⟨w.heap.size+1,2,none⟩) (Dm (by have:=a7;show w.heap.size+1≠_;omega))).trans (QC l f Z),(Brr (a:=⟨w.heap.size+1,3,none⟩) (Dm (by have:=a7;show w.heap.size+1≠_;omega))).trans (QC l f s3),(Brr (a:=⟨w.heap.size+1,4,none⟩) (Dm (by have:=a7;show w.heap.size+1≠_;omega))).trans (QC l f L)⟩ (fun t=>?_);clear m K
     try simp only[Act.put]
     refine Bsg Lt ?_ _;go_wp2
     go_meet
     case rel=>exact⟨_,rfl,b8⟩
    refine Nx Ls Ls ?_;have a1:Bl u2 (u2.alloc Np):=QN _;have z:=QB D a1;have c7:=Be u2 Np;have a8:w.heap.size+2<u2.heap.size:=Brs lR D.size;have b2:=c0.below a1;have b3:=Dc c1 (Kp.of_below (e:=none) a1) Fm;have b4:=Dc f6 (Kp.of_below (e:=none) a1) Fm;clear t;refine m.out _ _ ⟨QC z A O,QC z A Q,QC z f V,QC z f Y,QC z f Z,QC z f s3,QC z f L⟩ (fun t=>?_);clear m K
    try simp only[QX]
    refine tr 9 fun K m=>?_;go_simp;refine Qm (Ba HC _) ?_;intro u4 a0
    try dsimp only
    have l:=QB z a0;have a3:=stay a0 c7;have b5:=b2.below a0;have b6:=Dc b3 (Kp.of_below (e:=none) a0) Fm;have b7:=Dc b4 (Kp.of_below (e:=none) a0) Fm;clear t;refine m.out _ _ ⟨QC l A O,QC l A Q,QC l f V,QC l f Y,QC l f Z,QC l f s3,QC l f L⟩ (fun t=>?_);clear m K
    try simp only[QX]
    refine Bun (i:=10) (oi:=⟨_,_,_,_,_,_⟩) (v:=.agg (p.cells I tc ya yn yc F G (Cn p.entry []).cells).toArray) rfl Lt Lt Lt (fun _ _ _ h=>h) (Od Ls _ _ _ _ _ Ls _ _ _ _ _ _ _ _ _ _ _ (Cn p.entry []).cells a4 Ls Ls Ls Ls Ls) t ?_
    try simp only[QX]
    refine tr 12 fun K m=>?_;refine Kg Ls 156 _ _ Ls u2.heap.size (p.cells I tc ya yn yc F G (Cn p.entry []).cells).toArray Ls Ls 156 _ a3 (c2 I tc ya yn yc F G) (by simp[Ix.cells,Id,a4];rfl) (c3 I tc ya yn yc F G) ?_;have b8:=Vy (tc:=tc) CS CR a5 l a3 a8 b5 b6 b7;clear t;refine m.out _ _ ⟨(Brr (a:=⟨w.heap.size,0,none⟩) (Dm (by have:=a8;show w.heap.size≠_;omega))).trans (QC l A O),(Brr (a:=⟨w.heap.size,1,none⟩) (Dm (by have:=a8;show w.heap.size≠_;omega))).trans (QC l A Q),(Brr (a:=⟨w.heap.size+1,0,none⟩) (Dm (by have:=a8;show w.heap.size+1≠_;omega))).trans (QC l f V),(Brr (a:=⟨w.heap.size+1,1,none⟩) (Dm (by have:=a8;show w.heap.size+1≠_;omega))).trans (QC l f Y),(Brr (a:=⟨w.heap.size+1,2,none⟩) (Dm (by have:=a8;show w.heap.size+1≠_;omega))).trans (QC l f Z),(Brr (a:=⟨w.heap.size+1,3,none⟩) (Dm (by have:=a8;show w.heap.size+1≠_;omega))).trans (QC l f s3),(Brr (a:=⟨w.heap.size+1,4,none⟩) (Dm (by have:=a8;show w.heap.size+1≠_;omega))).trans (QC l f L)⟩ (fun t=>?_);clear m K
    try simp only[Act.put]
    refine Bsg Lt ?_ _;go_wp2
    go_meet
    case rel=>exact⟨_,rfl,b8⟩
   refine Nx Ls Ls ?_;have a1:Bl u1 (u1.alloc Np):=QN _;have D:=QB J a1;have d2:=Be u1 Np;have a9:w.heap.size+2<u1.heap.size:=Brs lR J.size;have c0:=f4.below a1;have c1:=Dc f5 (Kp.of_below (e:=none) a1) Fm;clear t;refine m.out _ _ ⟨QC D A O,QC D A Q,QC D f V,QC D f Y,QC D f Z,QC D f s3,QC D f L⟩ (fun t=>?_);clear m K
   try simp only[QX]
   refine tr 6 fun K m=>?_;go_simp;refine(Ba HH _).mono ?_;rintro e u3 ⟨F,G,rfl,a6,a2⟩;have b4:=D6 (base':=w.heap.size) a6 (Br5 b1 D.size);clear a6
   try dsimp only
   have z:=QB D a2;have c7:=stay a2 d2;have b2:=c0.below a2;have b3:=Dc c1 (Kp.of_below (e:=none) a2) Fm;clear t;refine m.out _ _ ⟨QC z A O,QC z A Q,QC z f V,QC z f Y,QC z f Z,QC z f s3,QC z f L⟩ (fun t=>?_);clear m K
   try simp only[QX]
   refine tr 9 fun K m=>?_;go_simp;refine Qm (Ba HC _) ?_;intro u4 a0
   try dsimp only
   have l:=QB z a0;have a3:=stay a0 c7;have b5:=b2.below a0;have b6:=Dc b3 (Kp.of_below (e:=none) a0) Fm;have b7:=Dc b4 (Kp.of_below (e:=none) a0) Fm;clear t;refine m.out _ _ ⟨QC l A O,QC l A Q,QC l f V,QC l f Y,QC l f Z,QC l f s3,QC l f L⟩ (fun t=>?_);clear m K
   try simp only[QX]
   refine Bun (i:=10) (oi:=⟨_,_,_,_,_,_⟩) (v:=.agg (p.cells I tc ya yn yc F G (Cn p.entry []).cells).toArray) rfl Lt Lt Lt (fun _ _ _ h=>h) (Od Ls _ _ _ _ _ Ls _ _ _ _ _ _ _ _ _ _ _ (Cn p.entry []).cells a4 Ls Ls Ls Ls Ls) t ?_
   try simp only[QX]
   refine tr 12 fun K m=>?_;refine Kg Ls 156 _ _ Ls u1.heap.size (p.cells I tc ya yn yc F G (Cn p.entry []).cells).toArray Ls Ls 156 _ a3 (c2 I tc ya yn yc F G) (by simp[Ix.cells,Id,a4];rfl) (c3 I tc ya yn yc F G) ?_;have b8:=Vy (tc:=tc) CS CR a5 l a3 a9 b5 b6 b7;clear t;refine m.out _ _ ⟨(Brr (a:=⟨w.heap.size,0,none⟩) (Dm (by have:=a9;show w.heap.size≠_;omega))).trans (QC l A O),(Brr (a:=⟨w.heap.size,1,none⟩) (Dm (by have:=a9;show w.heap.size≠_;omega))).trans (QC l A Q),(Brr (a:=⟨w.heap.size+1,0,none⟩) (Dm (by have:=a9;show w.heap.size+1≠_;omega))).trans (QC l f V),(Brr (a:=⟨w.heap.size+1,1,none⟩) (Dm (by have:=a9;show w.heap.size+1≠_;omega))).trans (QC l f Y),(Brr (a:=⟨w.heap.size+1,2,none⟩) (Dm (by have:=a9;show w.heap.size+1≠_;omega))).trans (QC l f Z),(Brr (a:=⟨w.heap.size+1,3,none⟩) (Dm (by have:=a9;show w.heap.size+1≠_;omega))).trans (QC l f s3),(Brr (a:=⟨w.heap.size+1,4,none⟩) (Dm (by have:=a9;show w.heap.size+1≠_;omega))).trans (QC l f L)⟩ (fun t=>?_);clear m K
   try simp only[Act.put]
   refine Bsg Lt ?_ _;go_wp2
   go_meet
   case rel=>exact⟨_,rfl,b8⟩
  refine Nx Ls Ls ?_;have a1:Bl wd.drew (wd.drew.alloc Np):=QN _;have J:=QB c4 a1;have i1:=Be wd.drew Np;have b0:w.heap.size+2<wd.drew.heap.size:=Brs lR c4.size;clear t;refine m.out _ _ ⟨QC J A O,QC J A Q,QC J f V,QC J f Y,QC J f Z,QC J f s3,QC J f L⟩ (fun t=>?_);clear m K
  try simp only[QX]
  refine tr 2 fun K m=>?_;go_simp;refine(Ba HT _ (a5.trans (J.mono b1))).mono ?_;rintro e u2 ⟨I,tc,ya,yn,yc,rfl,c0,c5,-,b9⟩;have c1:=D6 (base':=w.heap.size) c5 (Br5 b1 J.size);clear c5
  try dsimp only
  have D:=QB J b9;have d2:=stay b9 i1;clear t;refine m.out _ _ ⟨QC D A O,QC D A Q,QC D f V,QC D f Y,QC D f Z,QC D f s3,QC D f L⟩ (fun t=>?_);clear m K
  try simp only[QX]
  refine tr 6 fun K m=>?_;go_simp;refine(Ba HH _).mono ?_;rintro e u3 ⟨F,G,rfl,a6,a2⟩;have b4:=D6 (base':=w.heap.size) a6 (Br5 b1 D.size);clear a6
  try dsimp only
  have z:=QB D a2;have c7:=stay a2 d2;have b2:=c0.below a2;have b3:=Dc c1 (Kp.of_below (e:=none) a2) Fm;clear t;refine m.out _ _ ⟨QC z A O,QC z A Q,QC z f V,QC z f Y,QC z f Z,QC z f s3,QC z f L⟩ (fun t=>?_);clear m K
  try simp only[QX]
  refine tr 9 fun K m=>?_;go_simp;refine Qm (Ba HC _) ?_;intro u4 a0
  try dsimp only
  have l:=QB z a0;have a3:=stay a0 c7;have b5:=b2.below a0;have b6:=Dc b3 (Kp.of_below (e:=none) a0) Fm;have b7:=Dc b4 (Kp.of_below (e:=none) a0) Fm;clear t;refine m.out _ _ ⟨QC l A O,QC l A Q,QC l f V,QC l f Y,QC l f Z,QC l f s3,QC l f L⟩ (fun t=>?_);clear m K
  try simp only[QX]
  refine Bun (i:=10) (oi:=⟨_,_,_,_,_,_⟩) (v:=.agg (p.cells I tc ya yn yc F G (Cn p.entry []).cells).toArray) rfl Lt Lt Lt (fun _ _ _ h=>h) (Od Ls _ _ _ _ _ Ls _ _ _ _ _ _ _ _ _ _ _ (Cn p.entry []).cells a4 Ls Ls Ls Ls Ls) t ?_
  try simp only[QX]
  refine tr 12 fun K m=>?_;refine Kg Ls 156 _ _ Ls wd.drew.heap.size (p.cells I tc ya yn yc F G (Cn p.entry []).cells).toArray Ls Ls 156 _ a3 (c2 I tc ya yn yc F G) (by simp[Ix.cells,Id,a4];rfl) (c3 I tc ya yn yc F G) ?_;have b8:=Vy (tc:=tc) CS CR a5 l a3 b0 b5 b6 b7;clear t;refine m.out _ _ ⟨(Brr (a:=⟨w.heap.size,0,none⟩) (Dm (by have:=b0;show w.heap.size≠_;omega))).trans (QC l A O),(Brr (a:=⟨w.heap.size,1,none⟩) (Dm (by have:=b0;show w.heap.size≠_;omega))).trans (QC l A Q),(Brr (a:=⟨w.heap.size+1,0,none⟩) (Dm (by have:=b0;show w.heap.size+1≠_;omega))).trans (QC l f V),(Brr (a:=⟨w.heap.size+1,1,none⟩) (Dm (by have:=b0;show w.heap.size+1≠_;omega))).trans (QC l f Y),(Brr (a:=⟨w.heap.size+1,2,none⟩) (Dm (by have:=b0;show w.heap.size+1≠_;omega))).trans (QC l f Z),(Brr (a:=⟨w.heap.size+1,3,none⟩) (Dm (by have:=b0;show w.heap.size+1≠_;omega))).trans (QC l f s3),(Brr (a:=⟨w.heap.size+1,4,none⟩) (Dm (by have:=b0;show w.heap.size+1≠_;omega))).trans (QC l f L)⟩ (fun t=>?_);clear m K
  try simp only[Act.put]
  refine Bsg Lt ?_ _;go_wp2
  go_meet
  case rel=>exact⟨_,rfl,b8⟩
 case rest=>
  obtain⟨B,rfl,f7⟩:=hcut;clear CF CS CR a5 HT HH HC c2 c3;obtain⟨k,v0,ok,rfl,f8,c8,f9,g0,N,hS,d3,g1,g2,g3⟩:=Bno (Ba HG) f7;have hR:=Ba d9;rw[Bja,<- f9]at hR;have g4:k.E.Small:=⟨fun n=>(ok.cm n).2,fun n=>(ok.cm n).1,fun n=>ok.hb n,by show k.room<=30;exact ok.rm.2,by show k.depth<=12;exact ok.dep.2⟩;have d4:=ok.fu;rw[g0]at d4;obtain⟨fu,g5⟩:=Brp d4.1;have i6:fu<=3000:=Ck;have eF:p.fuel.toNat=fu:=Ck;rw[eF]at hR;have HR:Hid (Rb k.E fu (Gb p.entry) R):=⟨fun h=>(by cases h),fun _=>⟨by show (0:Nat)<=fu;omega,Bcq _ _,by show (0:Nat)<=0;omega,hR⟩⟩;have HE:=Bc g4;rw[g5]at hS;have g6:w.heap.size+1<k.w0.heap.size:=by rw[c8];exact Sp hS
  have g7:w.heap.size+2<k.w0.heap.size:=by rw[c8];exact Sp d3
  have HS:Hid (∀S v wr,Bw k S v wr->wr.heap[w.heap.size+1]?=some (O29 p.entry p.ia p.ins.length p.ic p.room p.depth (fu:Int))/\wr.heap[w.heap.size+2]?=some (O30 none 0 0 0 0 0)):=fun S v wr h=>⟨(h.rows.keep _ g6 Ck (Btj g1)).trans (by rw[c8];exact hS),(h.rows.keep _ g7 Ck (Btj g2)).trans (by rw[c8];exact d3)⟩;have d1:Hid (w.heap.size<=k.w0.heap.size/\k.wE=w):=⟨Ck,f8⟩;have HA:=Bc N;have i7:w.heap.size+2≠k.B:=Ck;have i8:w.heap.size+2<k.B:=g3;have g8:=fun S v w h=>Yv k S v 1 0 w ok h;have g9:Hid (∀S v wr,Bw k S v wr->Et k.E S->S.out.length<=S.steps->S.steps<=3000->Calls prog 86 #[.q k.B 0] wr fun e w'=>e=.r (.tuple #[])/\∃v',Bw k (Gk k.E S) v' w'):=fun S v wr h hb h1 h2=>by
   obtain⟨o1,o2,o3,o4,_,_⟩:=Bdd (Ba HE) S.now;have i9:=hb.ob;have j0:=hb.wt;have j1:=hb.rd;have j2:k.E.ins.length<=1000:=ok.il;exact Bjw k S v wr ok h ⟨Ck,Ck,Ck,Ck⟩ hb.nx Ck ⟨o1,o2,o3,o4⟩
  have h0:=Bc g8;clear HG d9 f7 hR g4 hS d3 f8 c8 f9 g0 N d4 g5 eF g1 g2 g6 g7 g8 g3 a4;go_wp2
  go_loopw [17] (fun _ wr=>∃(S:Bo) (v:Dd),Hid (Bw k S v wr)/\Hid (Rb k.E fu S R))
   (fun _ wr=>Bii k fu wr)
  case atStart=>exact⟨_,_,HA,HR⟩
  case round=>
   clear HA HR;obtain⟨S,v,HA,HL⟩:=hrel;have N:=Ba HA;have hL:=Ba HL;obtain⟨bS,bR⟩:=Ba HS S v wr N;have h3:=N.sees.c33;have j3:=N.sees.c37;have L:=(Bb bS 4).trans (show _=some (.i (fu:Int)) from rfl);have c9:=N.mr fu;cases he:S.ended with
   | true =>
    have i2:=hL.1 he;subst i2;rw[he]at h3;have j4:=N.sees.c34;have j5:=N.sees.c35;have j6:=N.sees.c36;obtain⟨y0,y1,y2,y3⟩:=cl4 bR;obtain⟨z0,z1,z2,z3⟩:=fr4 bR;have lR:=Sp bR;simp at y0 y1 y2 y3;have h4:=N.rows.low;rw[(Ba d1).2]at h4;have h5:=D6 (base':=w.heap.size) N.rows.out (Ba d1).1;have d0:∀j,(Value.slice v.xa S.out.length v.xc).ownBlock=some j->j≠w.heap.size+2:=fun j hj e=>by
     have:=(N.rows.out.lt j hj).1;have:=(Ba d1).1;rw[e]at hj;exact Fl N.rows.out (cs:=[.s none 0 0,.i 0,.i 0,.i 0]) bR Fm _ hj rfl
    have h6:∀a b c d,((((wr.setCell (.a (w.heap.size+2) 0) a).setCell (.a (w.heap.size+2) 1) b).setCell (.a (w.heap.size+2) 2) c).setCell (.a (w.heap.size+2) 3) d).ownsRow w.heap.size 3 1 (.s v.xa S.out.length v.xc) S.out.length (S.out.map (Value.int .i64)):=fun a b c d=>Fz h5 (fun j hj=>by
     rw[Brk _ _ _ _ (by simpa using d0 j hj),Brk _ _ _ _ (by simpa using d0 j hj),Brk _ _ _ _ (by simpa using d0 j hj),Brk _ _ _ _ (by simpa using d0 j hj)])
    have i3:=Bc h6;clear hL HL HA c9 h5 d0 h6 N HS g9 h0 HE d1 bR bS;go_wp2;refine tb (.agg #[.s v.xa S.out.length v.xc,.i S.status,.i S.value,.i (S.steps:Int)]) (by simp[results,results55,go_sem,y0,y1,y2,y3]) ?_;exact⟨v.xa,v.xc,rfl,Ba i3 _ _ _ _,(((h4.setCell (by show w.heap.size<=w.heap.size+2;omega) _).setCell (by show w.heap.size<=w.heap.size+2;omega) _).setCell (by show w.heap.size<=w.heap.size+2;omega) _).setCell (by show w.heap.size<=w.heap.size+2;omega) _⟩
   | false =>
    rw[he]at h3 c9;rw[Pk Hd]at c9;obtain⟨l1,l2,l3,l4⟩:=hL.2 he;by_cases hf:fu<=S.steps
    ·have hE:=Bm3 hL he hf;have i4:(fu:Int)<=(S.steps:Int):=Ck;have hC:=Ba h0 S v wr N;have d5:Hid (Rb k.E fu (S.fin 1 0) R):=⟨fun _=>hE,fun h=>(by cases h)⟩;clear hL HL HA N l4 hE;go_wp2_with fail;refine Qm hC ?_;intro w2 h2;have d6:=h2.mr fu;have d7:=Bc h2;clear h2;go_wp2;go_roundw
     case rel=>exact⟨_,v,d7,d5⟩
     case measure=>rw[d6,c9];simp[Bo.fin]
    have i4:¬(fu:Int)<=(S.steps:Int):=Ck;have d5:Hid (Rb k.E fu (Gk k.E S) R):=Bka (Ba HE) hL he hf;have hC:=Ba g9 S v wr N l2 l3 Ck;have h7:=(Rr k.E S).1;have i5:=Bc h7;clear hL HL HA N l4 h7;go_wp2_with fail;refine Qm hC ?_;rintro w2 ⟨v2,h2⟩;have d6:=h2.mr fu;have d7:=Bc h2;clear h2;go_wp2;go_roundw
    case rel=>exact⟨_,v2,d7,d5⟩
    case measure=>
     rw[d6,c9,Ba i5]
     split<;>omega
def K7 (m:Rd.Mth):Bool:=decide (m.cl=255)&&decide (m.params.length=0)
def Jp (ms:List Rd.Mth)(n:Int):Bool:=if n<0 then false else if (ms.length:Int)<=n then false else K7 (ms.getD n.toNat Ef)
def Ii:TI->Bool
 | []=>true
 | n::l=>if n < -2147483648 then false else if 2147483647<n then false else Ii l
def Iw (l:TI):Bool:=if 20<l.length then false else Ii l
def Gl (ms:List Rd.Mth)(e:Int)(l:TI)(h d f:Int):Int :=
 if Jp ms e=false then 12 else if h<0 then 13 else if 30<h then 13 else if d<1 then 13 else if 12<d then 13 else if f<0 then 13 else if 3000<f then 13 else if Iw l=false then 13 else 0
def Bb8(G j:TA)(I J l K:Nat)(b:List (Rd.Mth×Ex))(n:Int)(w:TW)(a0:b.length<=1000)(L:∀q∈b,q.1.params.length<=1000)(p:Eb w K (.s j b.length l) b):Calls prog 81 #[.agg #[.s G I J,.s j b.length l],.i n] w fun e N=>e=.r (.bool (Jp (b.map Prod.fst) n))/\Bl w N:=by
 unfold Jp;rw[Br1];by_cases t:n<0;·rw[Th t];go_in;go_wp2;go_ret;exact⟨rfl,QN _⟩
 rw[Pk t];by_cases v:(b.length:Int)<=n;·rw[Th v];go_in;go_wp2;go_ret;exact⟨rfl,QN _⟩
 rw[Pk v];obtain⟨q,rfl⟩:=Brp (show 0<=n by omega);have c:q<b.length:=Ck;obtain⟨m,g,O,a1,f,Q⟩:=p.mth c;have z:(b.map Prod.fst).getD (Int.toNat (q:Int)) Ef=b[q].1:=by simp[Vm,c]
 rw[z];have a2:=L _ (Brn c);obtain⟨A,V,Y,Z,i5,i6,h,-⟩:=Q;generalize b[q].1=M at *;have y0:=f 0 (.i M.cl) (by rw[<- A];rfl);have y2:=f 2 (.s m.pa M.params.length m.pc) (by first|(rw[<- h];rfl)|(rw[h];rfl)|rfl)
 rw[Bvh]at y0;unfold K7;generalize M.cl=B at *;generalize M.params.length=C at *;have kb:(q:Int)<(b.length:Int):=Ck;clear f p z A V Y Z i5 i6 h;subst O;by_cases D:B=255
 ·subst D;by_cases F:C=0;·subst F;go_in;go_wp2;go_ret;exact⟨Ls,QN _⟩
  have a3:((C:Int)==0)=false:=by simpa using F
  go_in;go_wp2;go_ret;exact⟨Hd,QN _⟩
 have a4:(B==255)=false:=by simpa using D
 go_in;go_wp2;go_ret;exact⟨Hd,QN _⟩
def Be5(l:TI)(a:TA)(c:Nat)(w:TW)(I:l.length<=maxLen)(m:Ft w a l):Calls prog 82 #[.s a l.length c] w fun e B=>e=.r (.bool (Iw l))/\B=w:=by
 unfold Iw;by_cases p:20<l.length;·rw[Th p];have C:(20:Int)<(l.length:Int):=Ck;go_in;go_wp2;go_ret;exact⟨rfl,rfl⟩
 rw[Pk p];have C:¬(20:Int)<(l.length:Int):=Ck;generalize b:Ii l=r;have f:Hid (Ii (l.drop 0)=r):=b;clear b;have q:=Bc m;clear m;go_in;go_wp2
 go_loopw [10] (fun v wr=>∃k:Nat,k<=l.length/\v=.i (k:Int)/\Hid (Ii (l.drop k)=r)/\wr=w)
  (fun v _=>l.length-(intOf v).toNat)
 case atStart=>exact⟨0,Ck,rfl,f,rfl⟩
 case round=>
  clear f;obtain⟨k,J,rfl,f,rfl⟩:=hrel;by_cases j:k<l.length
  ·obtain⟨g,o,D,K,F⟩:=Ba q k j;have b:=Ba f;rw[Brj j,Ii]at b;have t:l.getD k 0=l[k]:=by simp[Vm,j]
   rw[t]at F;generalize l[k]=x at *;have G:(k:Int)<(l.length:Int):=Ck;clear f q t;subst D;by_cases z:x < -2147483648;·rw[Th z]at b;have h:=Bc b;clear b;go_wp2;go_ret;exact⟨by rw[<- Ba h];rfl,rfl⟩
   rw[Pk z]at b;by_cases A:2147483647<x;·rw[Th A]at b;have h:=Bc b;clear b;go_wp2;go_ret;exact⟨by rw[<- Ba h];rfl,rfl⟩
   rw[Pk A]at b;have h:Hid (Ii (l.drop (k+1))=r):=b;clear b;go_wp2;go_roundw
   case rel=>exact⟨k+1,Ck,Mg,h,trivial⟩
   case measure=>simp[intOf];omega
  have b:=Ba f;rw[Brq Ck,Ii]at b;have h:=Bc b;have G:¬(k:Int)<(l.length:Int):=Ck;clear b f;go_wp2;go_ret;exact⟨by rw[<- Ba h];rfl,rfl⟩
def Bb3(D z t:TA)(F G A bm B:Nat)(g:List (Rd.Mth×Ex))(p:Int)(l:TI)(h d f:Int)(w:TW)(a1:g.length<=1000)(hp:∀q∈g,q.1.params.length<=1000)(hm:Eb w bm (.s z g.length A) g)(hl:l.length<=maxLen)(hi:Ft w t l):Calls prog 54 #[.agg #[.s D F G,.s z g.length A],.agg #[.i p,.s t l.length B,.i h,.i d,.i f]] w fun e j=>e=.r (.i (Gl (g.map Prod.fst) p l h d f))/\Bl w j:=by
 have J:=Bu w (O1 D F G z g.length A) (O29 p t l.length B h d f);have C0:=Cb w (O1 D F G z g.length A) (O29 p t l.length B h d f);have D0:=Bx w (O1 D F G z g.length A) (O29 p t l.length B h d f);have Z:Hid (∀j,Bl w j->Calls prog 81 #[.agg #[.s D F G,.s z g.length A],.i p] j fun e a0=>e=.r (.bool (Jp (g.map Prod.fst) p))/\Bl j a0):=fun j hb =>
  Bb8 D z F G A bm g p j a1 hp (hm.kp (Kp.of_below (e:=none) hb) Fm Fm Fm Fm Fm)
 have HN:Hid (∀j,Bl w j->Calls prog 82 #[.s t l.length B] j fun e a0=>e=.r (.bool (Iw l))/\a0=j):=fun j hb=>Be5 l t B j hl (hi.below hb);clear hm hi;unfold Gl;generalize Jp (g.map Prod.fst) p=be at *;generalize Iw l=bi at *;by_cases N:be=false;·subst N;rw[Th rfl];go_in;go_wp2_with fail;refine Qb (Ba Z _ J) J ?_;intro w1 O m;go_wp2;go_ret;exact⟨rfl,m⟩
 have a2:be=true:=by simpa using N
 subst a2;rw[Pk N];clear N;generalize hV:(if h<0 then (13:Int) else _)=V
 have b:=Bc hV;clear hV;go_in;go_wp2_with fail;refine Qb (Ba Z _ J) J ?_;intro w1 O m;have C1:=stay O C0;have K:=stay O D0;have s1:=(Bb K 1).trans (show _=some (.s t l.length B) from rfl);have s2:=(Bb K 2).trans (show _=some (.i h) from rfl);have s3:=(Bb K 3).trans (show _=some (.i d) from rfl);have s4:=(Bb K 4).trans (show _=some (.i f) from rfl);clear C0 D0 C1 K J O Z;by_cases v:h<0
 ·have c:Hid (V=13):=by unfold Hid;rw[<- Ba b,Th v]
  clear b;go_wp2;go_ret;exact⟨by rw[Ba c];rfl,m⟩
 by_cases C:30<h
 ·have c:Hid (V=13):=by unfold Hid;rw[<- Ba b,Pk v,Th C]
  clear b;go_wp2;go_ret;exact⟨by rw[Ba c];rfl,m⟩
 by_cases I:d<1
 ·have c:Hid (V=13):=by unfold Hid;rw[<- Ba b,Pk v,Pk C,Th I]
  clear b;go_wp2;go_ret;exact⟨by rw[Ba c];rfl,m⟩
 by_cases L:12<d
 ·have c:Hid (V=13):=by unfold Hid;rw[<- Ba b,Pk v,Pk C,Pk I,Th L]
  clear b;go_wp2;go_ret;exact⟨by rw[Ba c];rfl,m⟩
 by_cases Q:f<0
 ·have c:Hid (V=13):=by unfold Hid;rw[<- Ba b,Pk v,Pk C,Pk I,Pk L,Th Q]
  clear b;go_wp2;go_ret;exact⟨by rw[Ba c];rfl,m⟩
 by_cases c7:3000<f
 ·have c:Hid (V=13):=by unfold Hid;rw[<- Ba b,Pk v,Pk C,Pk I,Pk L,Pk Q,Th c7]
  clear b;go_wp2;go_ret;exact⟨by rw[Ba c];rfl,m⟩
 by_cases Y:bi=false
 ·subst Y;have c:Hid (V=13):=by unfold Hid;rw[<- Ba b,Pk v,Pk C,Pk I,Pk L,Pk Q,Pk c7,Th rfl]
  clear b;go_wp2_with fail;refine Qm (Ba HN _ m) ?_;rintro w2 rfl;go_wp2;go_ret;exact⟨by rw[Ba c];rfl,m⟩
 have a3:bi=true:=by simpa using Y
 subst a3;have c:Hid (V=0):=by unfold Hid;rw[<- Ba b,Pk v,Pk C,Pk I,Pk L,Pk Q,Pk c7,Pk Y]
 clear b Y;go_wp2_with fail;refine Qm (Ba HN _ m) ?_;rintro w2 rfl;go_wp2;go_ret;exact⟨by rw[Ba c];rfl,m⟩
structure W8 where
 out:List Int
 status:Int
 value:Int
 steps:Int
 err:Int
def Ve (cs:List Rd.Cls)(ms:List Rd.Mth)(ins:TI)(h d:Int):Dn:=⟨Tr.tree cs,Mn cs,ms,ins,h,d⟩
def Ts (R:Bo):W8:=⟨R.out,R.status,R.value,R.steps,0⟩
def Tq (s:TB)(en:Int)(ins:TI)(h d f:Int):W8 :=
 if (Gv s).1≠0 then ⟨[],0,0,0,(Gv s).1⟩
 else if Gl (Rd.read s).1.methods en ins h d f≠0 then ⟨[],0,0,0,Gl (Rd.read s).1.methods en ins h d f⟩
 else Ts (Oc (Ve (Rd.read s).1.classes (Rd.read s).1.methods ins h d) f.toNat en)
def Ml{F:TB}(h:(Gv F).1=0):(Rf.formed F).1=0:=by
 unfold Gv J6 at h;by_cases b:(Rf.formed F).1≠0;·rw[Th b]at h;exact absurd h b
 simpa using b
def Ut{F:TB}(h:(Rf.formed F).1=0):(Rd.read F).2=0:=by
 rw[<- Rn]at h;unfold Gx at h;by_cases b:(Rd.read F).2≠0;·rw[Th b]at h;exact absurd h b
 simpa using b
def V9{i:List Rd.Mth}{c:Int}{z:TI}{B d f:Int}(b:Gl i c z B d f=0):Jp i c=true/\0<=B/\B<=30/\1<=d/\d<=12/\0<=f/\f<=3000/\Iw z=true:=by
 unfold Gl at b;by_cases e:Jp i c=false;·rw[Th e]at b;omega
 by_cases g:Iw z=false
 ·simp only[g]at b;split at b<;>(try omega);split at b<;>(try omega);split at b<;>(try omega);split at b<;>(try omega);split at b<;>(try omega);split at b<;>(try omega);split at b<;>(try omega)
  simp at b
 rw[Pk e]at b;refine⟨by simpa using e,?_,?_,?_,?_,?_,?_,by simpa using g⟩
 all_goals iterate 6 (try (split at b<;>try omega))
def Bmh{s:TB}(i:Bn3 (Rd.read s).1){g l ia:TA}{u b t O ic:Nat}{Q:List (Rd.Cls×Value)}{T:List (Rd.Mth×Ex)}{en h d f:Int}{ins:TI}{w:TW} (m:Q.map Prod.fst=(Rd.read s).1.classes)(v:Fh w O (.s g u b) Q)(p:T.map Prod.fst=(Rd.read s).1.methods)(z:Eb w O (.s l T.length t) T)(A:ins.length<=1000)(hi:Ft w ia ins) (B:1<=d/\d<=12)(C:0<=h/\h<=30)(D:0<=f/\f<=3000):(⟨g,u,b,l,t,en,ia,ic,ins,h,d,f,Q,T⟩:Ix).Good w O O:=by
 have F:Q.length<=6:=by have:=i.c6;rw[<- m]at this;simpa using this
 have I:T.length<=6:=by have:=i.m6;rw[<- p]at this;simpa using this
 have G:∀q∈Q,Bil q.1:=fun q c=>i.cb _ (by rw[<- m];exact Bsc c);have e:∀q∈T,Bif q.1:=fun q c=>i.mb _ (by rw[<- p];exact Bsc c);refine⟨v,F,fun q c=>?_,z,?_,fun q c=>⟨?_,fun x j=>?_⟩,fun q c=>?_,fun q c=>⟨?_,fun x j=>?_⟩,hi,A,B,C,D⟩
 ·have:=(G q c).fl;omega
 ·show T.length<=1000;omega
 ·have:=(e q c).c2;omega
 ·have:=(e q c).cb x j;unfold By at this;omega
 ·have:=(e q c).pl;omega
 ·have:=(e q c).h4;omega
 have:=((e q c).hb x j).tg;unfold By at this;omega
def Bpo(s:ByteArray)(en:Int)(ins:TI)(h d f:Int)(ia:TA)(ic:Nat)(w:TW)(hs:s.size<=maxLen)(hl:ins.length<=maxLen)(hi:Ft w ia ins)(Q:W8)(v:Tq s.data.toList en ins h d f=Q):Calls prog 21 #[.string s,.agg #[.i en,.s ia ins.length ic,.i h,.i d,.i f]] w fun e L => ∃Z xc,e=.r (.tuple #[.agg #[.s Z Q.out.length xc,.i Q.status,.i Q.value,.i Q.steps],.i Q.err])/\De L w.heap.size (.s Z Q.out.length xc) Q.out/\Bl w L:=by
 have hC:∀w,Calls prog 53 #[.string s] w fun e L=>∃g j l m B p,e=.r (.tuple #[.agg #[.s g j l,.s m B p],.agg #[.i (Gv s.data.toList).1,.i (Gv s.data.toList).2.1,.i (Gv s.data.toList).2.2]]) /\
    ((Gv s.data.toList).1=0->∃bm a7 t,a7.map Prod.fst=(Rd.read s.data.toList).1.classes/\Fh L bm (.s g j l) a7/\t.map Prod.fst=(Rd.read s.data.toList).1.methods/\Eb L bm (.s m B p) t)/\Bl w L:=fun w=>by
  have hc:=Bk2 s (Ff (Ld (Rd.read s.data.toList).1.classes (Rd.read s.data.toList).1.methods) 0 (Rd.read s.data.toList).1.methods) w hs
   (fun h0 g j l m B p bm a7 t L hb a8 hc N hm=>by
    rw[Rn]at h0;obtain⟨k,_,_⟩:=Kb _ h0;exact Bhc k a8 hc N hm)
  rw[Bh2]at hc;exact hc
 have O:(Gv s.data.toList).1=0->Bn3 (Rd.read s.data.toList).1:=fun z=>Bp3 _ (Ut (Ml z));unfold Tq at v;have J:Hid (∀e,(Gv s.data.toList).1=e->e≠0->Q=⟨[],0,0,0,e⟩):=fun e he h0=>by rw[<- v,Th (by rw[he];exact h0),he]
 have b0:Hid ((Gv s.data.toList).1=0->(if Gl (Rd.read s.data.toList).1.methods en ins h d f≠0 then ⟨[],0,0,0,Gl (Rd.read s.data.toList).1.methods en ins h d f⟩
 else Ts (Oc (Ve (Rd.read s.data.toList).1.classes (Rd.read s.data.toList).1.methods ins h d) f.toNat en))=Q):=fun z=>by
  have h1:=v;rw[Pk (show ¬(Gv s.data.toList).1≠0 by rw[z];simp)]at h1;exact h1
 clear v;generalize hA:Gv s.data.toList=A at *;generalize b1:Rd.read s.data.toList=rd at *;clear hA;obtain⟨F,C,D⟩:=A;simp only at hC O J b0;have HC:=Bc hC;have b8:=Bc O;have HI:=Bc hi;clear hC O hi;have b9:=Bu w (O29 en ia ins.length ic h d f) (O30 none 0 0 0 0 0);have C0:=Cb w (O29 en ia ins.length ic h d f) (O30 none 0 0 0 0 0);have D0:=Bx w (O29 en ia ins.length ic h d f) (O30 none 0 0 0 0 0);by_cases hz:F=0
 ·subst hz;go_in;go_wp2_with fail;refine(Ba HC _).mono ?_;rintro e K ⟨g,j,l,m,B,p,rfl,c0,a0⟩;obtain⟨bm,a7,t,a8,c3,N,b2⟩:=c0 trivial;have O:=Ba b8 trivial;have v:=Ba b0 trivial;clear J b0 b8 c0;have d1:B=t.length:=by obtain⟨_,_,c4⟩:=Bh b2.1;simp only[Value.slice.injEq]at c4;exact c4.2.1
  subst d1;have a9:=QB b9 a0;have C1:=stay a0 C0;have D1:=stay a0 D0;have l1:=Sp C1;have l2:=Sp D1;have V:=Bg (Bg C1 (O1 g j l m t.length p)) (O8 0 C D);have G:=Bg (Bg D1 (O1 g j l m t.length p)) (O8 0 C D);have F2:=Cb K (O1 g j l m t.length p) (O8 0 C D);have E2:=Bx K (O1 g j l m t.length p) (O8 0 C D);have b3:=Bu K (O1 g j l m t.length p) (O8 0 C D);have a4:=QB a9 b3;have b4:=b2.kp (Kp.of_below (e:=none) (b3.mono (Bru _))) Fm Fm Fm Fm Fm;have c5:=c3.kp (Kp.of_below (e:=none) (b3.mono (Bru _))) Fm Fm;have hp:∀q∈t,q.1.params.length<=1000:=fun q hq=>by
   have:=(O.mb q.1 (by rw[<- N];exact Bsc hq)).pl;omega
  have d2:t.length<=1000:=by have:=O.m6;rw[<- N,Br1]at this;omega
  have b5:=Bb3 g m ia j l p bm ic t en ins h d f _ d2 hp b4 hl ((Ba HI).below a4);rw[N]at b5;have c6:=fun W (hb:Below _ _ W)=>Bmh (s:=s.data.toList) (ia:=ia) (ic:=ic) (en:=en) (h:=h) (d:=d) (f:=f) (ins:=ins) (w:=W) (by rw[b1];exact O) (by rw[b1];exact a8) (c5.kp (Kp.of_below (e:=none) hb) Fm Fm) (by rw[b1];exact N) (b4.kp (Kp.of_below (e:=none) hb) Fm Fm Fm Fm Fm) (hi:=((Ba HI).below a4).below hb);have HG:=Bc c6;have c7:=Bc b5;have J:=Bc v;clear b5 c6 v b2 b4 c3 c5 hp;generalize a3:Gl rd.1.methods en ins h d f=se at *;have HZ:=Bc a3;clear a3
  go_upto_region 2 with fail
  generalize (K.alloc (O1 g j l m t.length p)).alloc (O8 0 C D)=w2 at *;have s0:=(Bb V 0).trans (show _=some (.i en) from rfl);have s1:=(Bb V 1).trans (show _=some (.s ia ins.length ic) from rfl);have s2:=(Bb V 2).trans (show _=some (.i h) from rfl);have s3:=(Bb V 3).trans (show _=some (.i d) from rfl);have s4:=(Bb V 4).trans (show _=some (.i f) from rfl);have f0:=(Bb F2 0).trans (show _=some (.s g j l) from rfl);have f1:=(Bb F2 1).trans (show _=some (.s m t.length p) from rfl);have k0:=(Bb E2 0).trans (show _=some (.i 0) from rfl);go_wp2_with fail;refine Qb (Ba c7) a4 ?_;intro w3 a5 b6;have d5:=b6.size;have C3:=stay a5 V;have I:=stay a5 G;have F3:=stay a5 F2;clear s0 s1 s2 s3 s4 f0 f1 k0 c7 C0 D0 C1 D1 V G E2;by_cases a3:se=0
  ·subst a3;have d3:=V9 (Ba HZ);obtain⟨-,g1,g2,g3,g4,g5,g6,g7⟩:=d3;have hg:=Ba HG w3 a5 (by unfold Iw at g7;split at g7<;>first|simp at g7 | omega) ⟨g3,g4⟩ ⟨g1,g2⟩ ⟨g5,g6⟩
   have v:=Ba J;rw[Pk Hd]at v;generalize hR:Oc (Ve rd.1.classes rd.1.methods ins h d) f.toNat en=R at v;subst v;have c8:=Bmo _ _ _ w3 hg R (by rw[<- hR];simp only[Ix.E,Ve,Bkt,a8,N]);have c9:=Bc c8;have s0:=(Bb C3 0).trans (show _=some (.i en) from rfl);have s1:=(Bb C3 1).trans (show _=some (.s ia ins.length ic) from rfl);have s2:=(Bb C3 2).trans (show _=some (.i h) from rfl);have s3:=(Bb C3 3).trans (show _=some (.i d) from rfl);have s4:=(Bb C3 4).trans (show _=some (.i f) from rfl);have f0:=(Bb F3 0).trans (show _=some (.s g j l) from rfl);have f1:=(Bb F3 1).trans (show _=some (.s m t.length p) from rfl);have l4:=Sp I;clear c8 hg HG J HZ hR;go_wp2_with fail;refine(Ba c9).mono ?_;rintro e w4 ⟨Z,xc,rfl,d0,b7⟩;have a6:=QB b6 b7;have Y:=stay b7 I;have r0:=(Bb Y 0).trans (show _=some (.s none 0 0) from rfl);have r1:=(Bb Y 1).trans (show _=some (.i 0) from rfl);have r2:=(Bb Y 2).trans (show _=some (.i 0) from rfl);have r3:=(Bb Y 3).trans (show _=some (.i 0) from rfl);obtain⟨z0,z1,z2,z3⟩:=fr4 Y;have l5:=Sp Y;have HO:Hid (∀a b c d,De ((((w4.setCell (.a (w.heap.size+1) 0) a).setCell (.a (w.heap.size+1) 1) b).setCell (.a (w.heap.size+1) 2) c).setCell (.a (w.heap.size+1) 3) d) w.heap.size (.s Z R.out.length xc) R.out):=fun a b c d =>
    D6 (Dc d0 (e:=none) ((((Kp.set_lo Ck a).trans (Kp.set_lo Ck b)).trans (Kp.set_lo Ck c)).trans (Kp.set_lo Ck d)) Fm) Ck
   clear d0 I Y C3 F3 a5 b7 c9 s0 s1 s2 s3 s4 f0 f1;go_wp2_with fail;refine tb (.tuple #[.agg #[.s Z R.out.length xc,.i R.status,.i R.value,.i (R.steps:Int)],.i 0]) (by simp[results,Bwv,go_sem,r0,r1,r2,r3]) ?_;exact⟨Z,xc,rfl,Ba HO _ _ _ _,by repeat (first|(with_reducible exact a6)|(with_reducible refine Bud ?_)|(with_reducible refine Bry ?_ Fr _)|(with_reducible refine Bry ?_ Hd _))⟩
  have v:=Ba J;rw[Th a3]at v;subst v;have d6:(se != 0)=true:=by simpa using a3
  have a6:=b6;have r0:=(Bb I 0).trans (show _=some (.s none 0 0) from rfl);have r1:=(Bb I 1).trans (show _=some (.i 0) from rfl);have r2:=(Bb I 2).trans (show _=some (.i 0) from rfl);have r3:=(Bb I 3).trans (show _=some (.i 0) from rfl);obtain⟨z0,z1,z2,z3⟩:=fr4 I;have l5:=Sp I;clear HG J HZ;go_wp2_with fail;refine tb (.tuple #[.agg #[.s none 0 0,.i 0,.i 0,.i 0],.i se]) (by simp[results,Bwv,go_sem,r0,r1,r2,r3]) ?_;exact⟨none,0,rfl,Brw _ _ _ _,by repeat (first|(with_reducible exact a6)|(with_reducible refine Bud ?_)|(with_reducible refine Bry ?_ Fr _)|(with_reducible refine Bry ?_ Hd _))⟩
 go_in;go_wp2_with fail;refine(Ba HC _).mono ?_;rintro e K ⟨g,j,l,m,B,p,rfl,-,a0⟩;have a9:=QB b9 a0;have D1:=stay a0 D0;have l1:=Sp D1;have G:=Bg (Bg D1 (O1 g j l m B p)) (O8 F C D);have E2:=Bx K (O1 g j l m B p) (O8 F C D);have a4:=a9.trans ((Bu K (O1 g j l m B p) (O8 F C D)).mono a9.size);have d4:=Ba J F rfl hz;subst d4;have a6:=a4;have d7:(F != 0)=true:=by simpa using hz
 have r0:=(Bb G 0).trans (show _=some (.s none 0 0) from rfl);have r1:=(Bb G 1).trans (show _=some (.i 0) from rfl);have r2:=(Bb G 2).trans (show _=some (.i 0) from rfl);have r3:=(Bb G 3).trans (show _=some (.i 0) from rfl);obtain⟨z0,z1,z2,z3⟩:=fr4 G;have k0:=(Bb E2 0).trans (show _=some (.i F) from rfl);have l2:=Sp G;have l3:=Sp E2;go_wp2_with fail;generalize (K.alloc (O1 g j l m B p)).alloc (O8 F C D)=w2 at *
 go_region
 all_goals
  go_wp2_with fail;refine tb (.tuple #[.agg #[.s none 0 0,.i 0,.i 0,.i 0],.i F]) (by simp[results,Bwv,go_sem,r0,r1,r2,r3]) ?_;exact⟨none,0,rfl,Brw _ _ _ _,by repeat (first|(with_reducible exact a6)|(with_reducible refine Bud ?_)|(with_reducible refine Bry ?_ Fr _)|(with_reducible refine Bry ?_ Hd _))⟩
def Ft.of_ints{w:TW}{u:Nat}{a:TA}{n t:Nat}{z:TI}(h:De w u (.s a n t) z):Ft w a z:=fun i e=>by
 obtain⟨q,v,f⟩:=Bh h;simp only[Value.slice.injEq]at f;obtain⟨rfl,rfl,rfl⟩:=f;obtain⟨g,j,m,_,p⟩:=Cf h Ck;refine⟨g,0,j,m,?_⟩;rw[Brz,p i (by simpa using e)];simp[Vm,e]
def Ft.nil(w:TW)(a:TA):Ft w a []:=fun i b=>absurd b Hd
open Go.ChangeShapes Go.WideShapes Go.ChangeAt Go.RowKit Go.Deep Go.Joins
def Tryz.cellsKI:prog.cellsOf 3=1:=Lt
section
variable {H:Type}{enc:TypeId × Value→H}
theorem Bhd{v:World}{n:Nat}{l:Value}{x:DataW H×List MemPlace}(h:DataW.trod enc prog v 0 (fun _=>true) true n 26 [l]=some x):∃(a:Option Addr) (A:Nat) (f:List Int),l=.slice a f.length A/\f.length<=maxLen/\Ft v a f/\∀n∈f,-9223372036854775808<=n/\n<=9223372036854775807:=by
 rcases open_ints Bta Btm Tryz.cellsKI h with ⟨e,_⟩|⟨a,m,q,g,e,_,K,L,B,_,s,C⟩
 ·simp only[List.cons.injEq,Br8]at e;exact⟨none,0,[],e,Hd,Ft.nil _ _,Hd⟩
 simp only[List.cons.injEq,Br8]at e;subst e;have N:g.length=q:=by simpa using B
 have p:(g.take m).length=m:=by rw[Btr];omega
 refine⟨some a,q,g.take m,by rw[p],by rw[p];omega,fun i t=>?_,fun n D=>bounds_i64 (C n (Bwy D))⟩;rw[p]at t;obtain⟨b,j,F⟩:=a;have G:=s 0 Ck;have I:F=none:=by simpa[Addr.add] using World.cell?_spot G
 subst I;have J:(⟨b,j,none⟩:Addr).add i=⟨b,j+i,none⟩:=by unfold Addr.add;split<;>simp_all
 have z:v.cell? ⟨b,j+i,none⟩=some (.int .i64 (g.getD i 0)):=by rw[<- J];exact s i Ck
 refine⟨b,j,rfl,Bwe v _ z,?_⟩;rw[z];simp[Vm,t]
end
def Ba7(b c:TI)(C D:TA)(J K:Nat)(w:TW)(F:Ft w C b)(G:Ft w D c)(hl:b.length<=9223372036854775807)(a4:c.length<=9223372036854775807):Calls prog 63 #[.s C b.length J,.s D c.length K] w fun e L=>e=.r (.bool (decide (b=c)))/\Bl w L:=by
 have N:=Bc F;have O:=Bc G;clear F G;by_cases t:b.length=c.length
 ·generalize j:decide (b=c)=r;have f:Hid (decide (b.drop 0=c.drop 0)=r):=j;clear j;have Q:((b.length:Int) != (c.length:Int))=false:=Fr;have I:=Bc t;clear t;go_in;go_wp2
  go_loopw [5] (fun v wr=>∃k:Nat,k<=b.length/\v=.i (k:Int)/\Hid (decide (b.drop k=c.drop k)=r)/\Bl w wr)
   (fun v _=>b.length-(intOf v).toNat)
  case atStart=>exact⟨0,Ck,rfl,f,Brm _ _⟩
  case round=>
   clear f;obtain⟨k,hk,rfl,f,l⟩:=hrel;by_cases z:k<b.length
   ·have A:k<c.length:=by have:=Ba I;omega
    obtain⟨g,o,V,a5,u0⟩:=(Ba N).below l k z;obtain⟨g2,o2,Y,a6,Z⟩:=(Ba O).below l k A;have j:=Ba f;rw[Tj z A]at j;rw[show b.getD k 0=b[k] by simp[Vm,z]]at u0;rw[show c.getD k 0=c[k] by simp[Vm,A]]at Z;generalize b[k]=x at *;generalize c[k]=y at *;have a0:(k:Int)<(b.length:Int):=Ck;have a7:(k:Int)<(c.length:Int):=Ck;have q:=Bc j;clear j f;subst V Y;by_cases B:x=y
    ·subst B;have m:Hid (decide (b.drop (k+1)=c.drop (k+1))=r):=by unfold Hid;rw[<- Ba q];simp
     clear q;go_wp2;go_quiet (fail);go_wp2;go_roundw
     case rel=>exact⟨k+1,Ck,Mg,m,Dr l⟩
     case measure=>simp[intOf];omega
    have p:r=false:=by rw[<- Ba q];simp[B]
    have m:=Bc p;have a8:(x != y)=true:=by simpa using B
    clear q p;go_wp2;go_quiet (fail);go_wp2;go_ret;exact⟨by rw[Ba m];rfl,Dr l⟩
   have p:r=true:=by
    rw[<- Ba f,Brq Ck,Brq (by have:=Ba I;omega)];rfl
   have m:=Bc p;have a0:¬(k:Int)<(b.length:Int):=Ck;clear p f;go_wp2;go_ret;exact⟨by rw[Ba m];rfl,l⟩
 have Q:((b.length:Int) != (c.length:Int))=true:=Fr;have a3:decide (b=c)=false:=by
  simp only[Bti];intro h;exact t (by rw[h])
 rw[a3];go_in;go_wp2;go_ret;exact⟨rfl,Brm _ _⟩
def Bdo(b:TI)(c f g:Int)(h ya:TA)(j yc:Nat)(w:TW)(t:Ft w h b)(v:Ft w ya b)(z:b.length<=9223372036854775807):Calls prog 25 #[.agg #[.s h b.length j,.i c,.i f,.i g],.agg #[.s ya b.length yc,.i c,.i f,.i g]] w fun e F=>e=.r (.bool true)/\Bl w F:=by
 have p:=Bu w (O30 h b.length j c f g) (O30 ya b.length yc c f g);have A:=Cb w (O30 h b.length j c f g) (O30 ya b.length yc c f g);have B:=Bx w (O30 h b.length j c f g) (O30 ya b.length yc c f g);have q:=Ba7 b b h ya j yc _ (t.below p) (v.below p) z z;rw[Bt5 (rfl:b=b)]at q;have C:=Bc q;clear q t v;go_in;go_wp2_with fail;refine Qb (Ba C) p ?_;intro I D G;have l:=stay D A;have m:=stay D B;have J:=(Bb l 1).trans (show _=some (.i c) from rfl);have K:=(Bb l 2).trans (show _=some (.i f) from rfl);have L:=(Bb l 3).trans (show _=some (.i g) from rfl);have N:=(Bb m 1).trans (show _=some (.i c) from rfl);have O:=(Bb m 2).trans (show _=some (.i f) from rfl);have Q:=(Bb m 3).trans (show _=some (.i g) from rfl);clear C A l B m;go_wp2;go_ret;exact⟨rfl,G⟩
def Re (w:TW)(b:Nat)(m:Int)(v:TX):Prop:=∃a n c,v=.slice a n c/\n<=9223372036854775807/\(n=0\/∃g cs,a=some ⟨g,0,none⟩/\b<=g/\w.heap[g]?=some (.cells cs 3 (0,0))/\∀i,i<n->cs[i]?=some (.int .i64 m))
structure Jg(w:World)(B b:Nat)(la:Option Addr)(lc:Nat)(vs:List Value):Prop where
 blk:w.heap[B]?=some (O31 la vs.length lc)
 row:w.ownsRow b 26 1 (.slice la vs.length lc) vs.length vs
 ls:∀k (h:k<vs.length),Re w b (1099511627776+(k:Int)) vs[k]
def Jg.below{w s:TW}{u b:Nat}{g:TA}{t:Nat}{l:TV}(h:Jg w u b g t l)(i:Bl w s):Jg s u b g t l:=by
 refine⟨stay i h.blk,Dc (e:=none) h.row (Kp.of_below i) Hd,fun k m=>?_⟩;obtain⟨a,n,c,e,p,j⟩:=h.ls k m;refine⟨a,n,c,e,p,?_⟩;rcases j with j|⟨f,q,v,z,A,C⟩
 ·exact .inl j
 exact .inr ⟨f,q,v,z,stay i A,C⟩
def Bhm(B b:Nat)(m:TA)(p:Nat)(f:TV)(w:TW)(h:Jg w B b m p f)(V:f.length<=5000000000000):Calls prog 51 #[.q B 0] w fun e F=>e=.r (.bool true)/\w=F:=by
 have Y:=(Bb h.blk 0).trans (show _=some (.s m f.length p) from rfl);have G:=Bc h.row;have I:=Bc h.ls;clear h;go_in;go_wp2
 go_loopw [3] (fun v wr=>∃k:Nat,k<=f.length/\v=.i (k:Int)/\w=wr)
  (fun v _=>f.length-(intOf v).toNat)
 case atStart=>exact⟨0,Ck,rfl,rfl⟩
 case round=>
  obtain⟨k,Z,rfl,rfl⟩:=hrel;by_cases j:k<f.length
  ·have J:(k:Int)<(f.length:Int):=Ck;obtain⟨g0,K,a0,_,t⟩:=Cf (Ba G) Ck;have z:=t k j;rw[Brl j]at z;obtain⟨a,n,c,A,hn,l⟩:=Ba I k j;rw[A]at z;subst K;clear t A;go_wp2
   go_loopw [4] (fun v wr=>∃i:Nat,i<=n/\v=.i (i:Int)/\w=wr)
    (fun v _=>n-(intOf v).toNat)
   case atStart=>exact⟨0,Ck,rfl,rfl⟩
   case round=>
    obtain⟨i,hi,rfl,rfl⟩:=hrel;by_cases L:i<n
    ·have N:(i:Int)<(n:Int):=Ck;rcases l with l|⟨g,cs,O,Q,C,D⟩
     ·omega
     have x1:=(Bb C i).trans (D i L);subst O;clear Q C D;go_wp2;go_roundw
     case rel=>exact⟨i+1,Ck,Mg,by trivial⟩
     case measure=>simp[intOf]<;>omega
    have N:¬(i:Int)<(n:Int):=Ck;clear l;go_wp2;go_roundw
    case rel=>exact⟨k+1,Ck,Mg,by trivial⟩
    case measure=>simp[intOf]<;>omega
  have J:¬(k:Int)<(f.length:Int):=Ck;go_wp2;go_ret;exact⟨rfl,by trivial⟩
def Tryz.infoInts:(prog.info? 26).map (fun i=>(i.zero,i.size,i.bytes))=some (some (.s none 0 0),1,24):=Lt
def Pq (g:Nat)(vs:TV):Prop:=∀v∈vs,∀a n c,v=.slice a n c->0<n->∀q,a=some ⟨q,0,none⟩->q≠g
def Jg.grow{w s:TW}{u b t:Nat}{g:TA}{O:Nat}{e:TV}{G:Array Value}(h:Jg w u b g O e)(m:w.heap[t]?=some (.cells G 3 (0,0)))(F:Pq t e)(i:Gr t w s):Jg s u b g O e:=by
 have I:u≠t:=by
  intro f;have:=h.blk;rw[f,m]at this;simp at this
 refine⟨(i.blk (Sp h.blk) I).trans h.blk,?_,fun k p=>?_⟩
 ·refine h.row.kept i ?_;cases f:(Value.slice g e.length O).ownBlock with
  | none=>exact .inl rfl
  | some q =>
   refine .inr fun j=>?_;obtain rfl:q=t:=by simpa using j
   obtain⟨_,⟨v,_⟩|⟨J,Y,Z,z,_,A,_⟩⟩:=h.row
   ·simp only[Value.slice.injEq]at v;obtain⟨rfl,_,_⟩:=v;simp[Value.ownBlock]at f
   simp only[Value.slice.injEq]at z;obtain⟨rfl,_,_⟩:=z;have:J=q:=by simpa[Value.ownBlock] using f
   subst this;rw[m]at A;simp at A
 obtain⟨a,n,c,f,K,l⟩:=h.ls k p;refine⟨a,n,c,f,K,?_⟩;rcases l with l|⟨q,L,C,j,D,N⟩
 ·exact .inl l
 by_cases Q:n=0;·exact .inl Q
 have V:=F e[k] (Brn p) a n c f Ck q C;exact .inr ⟨q,L,C,j,(i.blk (Sp D) V).trans D,N⟩
def Re.keep{w s:TW}{u:Nat}{c:Int}{l:TX}(h:Re w u c l)(t:∀(g:Nat) (j:Array Value),w.heap[g]?=some (.cells j 3 (0,0))->s.heap[g]?=some (.cells j 3 (0,0))):Re s u c l:=by
 obtain⟨a,n,f,e,z,i⟩:=h;refine⟨a,n,f,e,z,?_⟩;rcases i with i|⟨q,p,A,B,C,D⟩
 ·exact .inl i
 exact .inr ⟨q,p,A,B,t q p C,D⟩
def Jg.push{w j:TW}{u b t O:Nat}{g m:TA}{f:TV}{l:TX}{o:Obj}(h:Jg w u b g t f)(hF:Re w b (1099511627776+(f.length:Int)) l)(J:u<b) (K:j.ownsRow b 26 1 (.s m (f.length+1) O) (f.length+1) (f++[l]))(A:(w.alloc o).grownBy j (Value.slice g f.length t).ownBlock):j.heap[u]?=some (O31 g f.length t)/\Jg (j.setCell (.a u 0) (.s m (f.length+1) O)) u b m O (f++[l])/\∀(c:Nat) (p:Array Value),w.heap[c]?=some (.cells p 3 (0,0))->(j.setCell (.a u 0) (.s m (f.length+1) O)).heap[c]?=some (.cells p 3 (0,0)):=by
 have C:j.heap[u]?=w.heap[u]?:=(World.grownBy.block A u (by have:=Sp h.blk;simp;omega) (fun e=>by have:=(h.row.lt u e.symm).1;omega)).trans (Br2 _ _ _ (Sp h.blk));have z:∀(c:Nat) (p:Array Value),w.heap[c]?=some (.cells p 3 (0,0))->(j.setCell (.a u 0) (.s m (f.length+1) O)).heap[c]?=some (.cells p 3 (0,0)):=by
  intro c p q;have L:c≠u:=by intro e;have:=h.blk;rw[<- e,q]at this;simp at this
  rw[Brk _ _ _ _ L];refine((World.grownBy.block A c (by have:=Sp q;simp;omega) (fun e=>?_)).trans (Br2 _ _ _ (Sp q))).trans q;obtain⟨_,⟨D,_⟩|⟨N,V,Y,F,_,G,_⟩⟩:=h.row
  ·simp only[Value.slice.injEq]at D;obtain⟨rfl,_,_⟩:=D;simp[Value.ownBlock]at e
  simp only[Value.slice.injEq]at F;obtain⟨rfl,_,_⟩:=F;have:c=N:=by simpa[Value.ownBlock] using e
  subst this;rw[q]at G;simp at G
 refine⟨C.trans h.blk,⟨?_,?_,fun k Q=>?_⟩,z⟩
 ·have:=Bt (i:=0) (C.trans h.blk) (.s m (f.length+1) O);rw[this];simp
 ·have:=Dc (e:=none) K (Kp.set_lo (i:=0) J (.s m (f.length+1) O)) Hd;simpa using this
 by_cases I:k<f.length;·rw[List.getElem_append_left I];exact(h.ls k I).keep z
 obtain rfl:k=f.length:=by simp at Q;omega
 rw[Bv6 (Bru _)];simp only[Bus,Btn];exact hF.keep z
def Zx(B b g c n:Nat)(G:TA)(I:Nat)(l:TV)(J:Array Value)(w:TW)(h:Jg w B b G I l)(hg:w.heap[g]?=some (.cells J 3 (0,0)))(a8:J.size=c)(hc:c<=9223372036854775807)(b7:n<=c)(a9:b<=g)(ho:Pq g l)(b8:l.length<=5000000000000)(a1:B<b):Calls prog 128 #[.q B 0,.s (.p g) n c] w fun e K=>e=.r (.tuple #[])/\∃L N,Jg K B b L N (l++[.s (.p g) c c])/\(∀m t,Below m t w->m<=B->Below m t K)/\∀(q:Nat) (f:Array Value),w.heap[q]?=some (.cells f 3 (0,0))->q≠g->K.heap[q]?=some (.cells f 3 (0,0)):=by
 obtain⟨i0,hi,b0,b1,b2⟩:=Bsa Tryz.infoInts;have H:=Bc h;have HO:=Bc ho;have O:=Bc hg;clear h ho hg;go_in;go_wp2
 go_loopw [5] (fun v wr=>∃(i:Nat) (f:Array Value),i<=c/\v=.i (i:Int)/\wr.heap[g]?=some (.cells f 3 (0,0))/\f.size=c/\(∀j,j<i->f[j]?=some (.i (1099511627776+(l.length:Int))))/\Gr g w wr)
  (fun v _=>c-(intOf v).toNat)
 case atStart=>exact⟨0,J,Ck,rfl,Ba O,a8,fun j hj=>Ck,Gr.refl _ _⟩
 case round=>
  obtain⟨i,f,b9,rfl,z,a2,D,A⟩:=hrel;have C:=(Ba H).grow (Ba O) (Ba HO) A;have c0:=(Bb C.blk 0).trans (show _=some (.s G l.length I) from rfl);by_cases b3:i<c
  ·have ib:(i:Int)<(c:Int):=Ck;obtain⟨u,hu⟩:∃u,f[i]?=some u:=⟨f[i],Bu0 Ck⟩;have x0:=(Bb z i).trans hu;have f0:=Bk z i;have a3:=Bt (i:=i) z (.i (1099511627776+(l.length:Int)));have a4:=A.setB (i:=i) (.i (1099511627776+(l.length:Int)));have HK:=Bc a3;have F:=Bc a4;have Q:=Bc D;clear C z a3 a4 A D;go_wp2;go_roundw
   case rel=>
    refine⟨i+1,_,Ck,Mg,Ba HK,by simpa using a2,fun j hj=>?_,Ba F⟩;by_cases e:j=i;·subst e;simp[a2,b3]
    rw[Array.getElem?_setIfInBounds_ne Ck];exact Ba Q j Ck
   case measure=>simp[intOf]<;>omega
  have ib:¬(i:Int)<(c:Int):=Ck;obtain rfl:i=c:=Ck;have hF:Re wr b (1099511627776+(l.length:Int)) (.s (.p g) i i):=⟨_,_,_,rfl,Ck,.inr ⟨g,f,rfl,a9,z,D⟩⟩;have V:=C.row;have c1:=Sp z;have HA:=Bc C;have Q:=Bc hF;have F:=Bc A;clear C hF D A;go_wp2_with (at_builtin;refine Br3 _ rfl _ _ 95 rfl b 26 i0 _ 1 24 underlying95 hi b0 b1 b2 rfl Fm _ _ _ rfl (V.alloc _) _ 1 1 [.s (.p g) i i] rfl rfl ?d1 ?c2 ?c3 ?c4 ?c5 ?_)
  case c2=>rfl
  case c3=>unfold maxLen;omega
  case c4=>omega
  case c5=>omega
  intro v' w9 Y Z _;obtain⟨L,N,rfl⟩:=Bh Y;obtain⟨a0,a5,a6⟩:=(Ba HA).push (Ba Q) a1 Y Z;have d0:=(Bb a0 0).trans (show _=some (.s G l.length I) from rfl);have f0:=Bk a0 0;have a7:∀m t,Below m t w->m<=B->Below m t (w9.setCell (.a B 0) (.s L (l.length+1) N)):=fun m t h1 h2=>by
   have h3:Below m t wr:=h1.grown (Ba F) (Br5 (Br5 h2 (Bsx a1)) (by have:=Sp (Ba O);omega)) (fun k e=>by simp at e;omega);have h4:=(h3.alloc Ck (O32 (.p g) i i)).grown Z Fr (fun k e=>by have:=(V.lt k e).1;omega);exact h4.setCell (p:=.a B 0) h2 _
  have b4:=Bc a5;have b5:=Bc a7;have b6:=Bc (fun (q:Nat) (f:Array Value) (e1:w.heap[q]?=some (.cells f 3 (0,0))) (e2:q≠g)=>a6 q f (((Ba F).blk (Sp e1) e2).trans e1));clear Z Y V a0 a5 a7 c0 a6;go_wp2;go_end0;exact⟨rfl,_,_,Ba b4,Ba b5,Ba b6⟩
def Bhn(B b:Nat)(j:TA)(l:Nat)(f:TV)(w:TW)(h:Jg w B b j l f)(a3:f.length<=5000000000000)(N:B<b)(a4:b<=w.heap.size):Calls prog 128 #[.q B 0,.s none 0 0] w fun e m=>e=.r (.tuple #[])/\∃t z,Jg m B b t z (f++[.s none 0 0])/\(∀c g,Below c g w->c<=B->Below c g m)/\∀(q:Nat) (G:Array Value),w.heap[q]?=some (.cells G 3 (0,0))->m.heap[q]?=some (.cells G 3 (0,0)):=by
 obtain⟨O,Q,V,Y,Z⟩:=Bsa Tryz.infoInts;have hF:Re w b (1099511627776+(f.length:Int)) (.s none 0 0):=⟨_,_,_,rfl,Ck,.inl rfl⟩;have A:=h.row;have c0:=(Bb h.blk 0).trans (show _=some (.s j f.length l) from rfl);have HA:=Bc h;have HF:=Bc hF;clear h hF;go_in;go_wp2
 go_loopw [5] (fun v wr=>v=.i 0/\w=wr) (fun _ _=>0)
 case atStart=>exact⟨rfl,rfl⟩
 case round=>
  obtain⟨rfl,rfl⟩:=hrel;go_wp2_with (at_builtin;refine Br3 _ rfl _ _ 95 rfl b 26 O _ 1 24 underlying95 Q V Y Z rfl Fm _ _ _ rfl (A.alloc _) _ 1 1 [.s none 0 0] rfl rfl ?c1 ?c2 ?c3 ?c4 ?c5 ?_)
  case c1=>exact Dh _ _ _ _ rfl
  case c2=>intro u I;simp at I;subst I;rfl
  case c3=>unfold maxLen;omega
  case c4=>omega
  case c5=>simp;omega
  intro v' w9 C D _;obtain⟨t,z,rfl⟩:=Bh C;obtain⟨F,J,K⟩:=(Ba HA).push (Ba HF) N C D;have d0:=(Bb F 0).trans (show _=some (.s j f.length l) from rfl);have f0:=Bk F 0;have L:∀c g,Below c g w->c<=B->Below c g (w9.setCell (.a B 0) (.s t (f.length+1) z)):=fun c g h1 h2=>by
   have h4:=(h1.alloc Ck (O32 none 0 0)).grown D Fr (fun k e=>by have:=(A.lt k e).1;omega);exact h4.setCell (p:=.a B 0) h2 _
  have a0:=Bc J;have a1:=Bc L;have a2:=Bc K;clear D C A F J L c0 K;go_wp2;go_end0;exact⟨rfl,_,_,Ba a0,Ba a1,Ba a2⟩
def Boe(X:TV)(D:TV)(b:D.length=2)(u:TX):((X++D).set X.length u).set (X.length+1) u=X++[u,u]:=by
 match D,b with
 | [p,q],_=>simp[List.set_append]
def Bhl(b:TI)(t:TA)(xc:Nat)(w:TW)(B:Ft w t b)(hl:b.length<=35000000000000):Calls prog 125 #[.s t b.length xc] w fun e J=>∃g K,e=.r (.s (.p g) b.length (b.length+2))/\w.heap.size<=g/\J.heap[g]?=some (.cells K 3 (0,0))/\K.toList=b.map (Value.int .i64)++[.i 7,.i 7]/\Bl w J:=by
 obtain⟨i0,hi,b4,b5,b6⟩:=Bsa Tryz.infoInt;have L:0<b.length->∃c,t=some c/\c.block<w.heap.size/\∀j v,(b.map (Value.int .i64))[j]?=some v->w.cell? (c.add j)=some v/\(c.add j).block=c.block:=by
  intro N;obtain⟨g,o,O,b7,c7⟩:=B 0 N;refine⟨⟨g,o,none⟩,O,b7,?_⟩;intro j v f;have Q:j<b.length:=by
   rw[Bsf]at f;cases e:b[j]? with
   | none=>rw[e]at f;simp at f
   | some y=>exact(List.getElem?_eq_some_iff.1 e).1
  obtain⟨g',o',C,_,hc⟩:=B j Q;rw[O]at C;simp only[Option.some.injEq,Addr.mk.injEq,Br8]at C;obtain⟨rfl,rfl⟩:=C;have e:(⟨g,o,none⟩:Addr).add j=⟨g,o+j,none⟩:=by unfold Addr.add;split<;>simp_all
  rw[e,hc,<- f];exact⟨by simp[Vm,Q],rfl⟩
 have V:=Bc L;clear L B;go_in;go_wp2_with (refine wpList_make_full _ rfl _ _ 26 rfl w.heap.size 3 i0 _ 1 Bta hi b4 b5 .i64 .i64 _ _ (b.length+2) rfl rfl ?c1 ?c2 ?c3 ?c4 (Bru _) ?_)
 case c1=>omega
 case c2=>omega
 case c3=>rw[b6];omega
 case c4=>unfold maxLen;omega
 intro F Z a0;have G:Bl w F:=(Brm _ _).grown a0 (Bru _) (fun k e=>by simp at e);obtain⟨h,a1,c8⟩:∃h:TV,F.heap[w.heap.size]?=some (.cells h.toArray 3 (0,0))/\h.length=b.length+2:=by
  obtain⟨h1,⟨h2,_⟩|⟨g',c9,h,h3,_,h5,_,_,h8,_⟩⟩:=Z
  ·simp at h2
  simp only[Value.slice.injEq,Option.some.injEq,Addr.mk.injEq,Br8,Buw]at h3;obtain⟨rfl,rfl⟩:=h3;exact⟨h.toList,by simpa using h5,Fr⟩
 obtain⟨X,m⟩:∃X,X=b.map (Value.int .i64):=⟨_,rfl⟩;have a2:X.length=b.length:=by rw[m];simp
 have a3:0<X.length->some (⟨w.heap.size,0,none⟩:Addr)=some ⟨w.heap.size,0,none⟩/\∃c,t=some c/\∀j v,X[j]?=some v->F.cell? (c.add j)=some v:=by
  intro N;obtain⟨c,e1,e2,e3⟩:=Ba V Ck;refine⟨rfl,c,e1,fun j v f=>?_⟩;obtain⟨e4,e5⟩:=e3 j v (by rw[<- m];exact f);rw[<- e4];exact G.cell (p:=c.add j) (by rw[e5];exact e2)
 have HX:=Bc (fun (_:Unit)=>m);have a4:∀v∈X,v.oneCell'=true:=by
  intro v f;rw[m]at f;obtain⟨y,_,rfl⟩:=List.mem_map.1 f;rfl
 have a5:splice h 0 X=X++h.drop b.length:=by unfold splice;simp[a2]
 have a6:=Bc a3;have a7:=Bc a4;have a8:=Bc (fun (_:Unit)=>a5);have b8:(prog.info? 3).map (·.size)=some 1:=Lt;clear Z a0 V a3 m a4 a5;go_wp2_with (refine wpList_copy_splice rfl _ _ 26 26 rfl 3 Bta b8 _ _ _ _ _ _ rfl rfl w.heap.size 0 h 3 a1 X ?d1 (Ba a6) ?d2 (Ba a7) w.heap.size w G (Bru _) ?_)
 intro w2 a9 b0;have l:=Ba a9;rw[Ba a8 ()]at l;obtain⟨D,I⟩:∃D,D=h.drop b.length:=⟨_,rfl⟩;have b9:D.length=2:=by rw[I,Bv9];omega
 rw[<- I]at l;obtain⟨Y,z⟩:∃Y,Y=X++D:=⟨_,rfl⟩;have d0:Y.length=b.length+2:=by rw[z,Ws];omega
 have b1:(Y.set b.length (.i 7)).set (b.length+1) (.i 7)=b.map (Value.int .i64)++[.i 7,.i 7]:=by
  have:=Boe X D b9 (.i 7);rw[a2,<- z]at this;rw[this,Ba HX ()]
 rw[<- z]at l;obtain⟨p,hp⟩:∃p,Y.toArray[b.length]?=some p:=⟨Y[b.length],by simp[Brl (show b.length<Y.length by omega)]⟩;have x1:=(Bb l b.length).trans hp;have f1:=Bk l b.length;have A:=Bt (i:=b.length) l (.i 7);obtain⟨q,hq⟩:∃q,(Y.toArray.setIfInBounds b.length (.i 7))[b.length+1]?=some q:=⟨Y[b.length+1],by simp[Brl (show b.length+1<Y.length by omega)]⟩;have x2:=(Bb A (b.length+1)).trans hq;have f2:=Bk A (b.length+1);have b2:=Bt (i:=b.length+1) A (.i 7);have b3:=(b0.setCell (p:=.a w.heap.size b.length) (Bru _) (.i 7)).setCell (p:=.a w.heap.size (b.length+1)) (Bru _) (.i 7);have c0:=Bc b3;have c5:=Bc b2;have c6:=Bc (fun (_:Unit)=>b1);have l1:(b.length:Int)<(b.length:Int)+2:=Ck;have l2:(b.length:Int)+1<(b.length:Int)+2:=Ck;clear a9 l A b2 b0 b3 b1 z I a1 G a6 a7 a8 HX hp hq;go_wp2;go_ret;refine⟨_,_,rfl,Bru _,Ba c5,?_,Ba c0⟩;rw[<- Ba c6 ()];simp
def Zi{w:TW}{u:Nat}{G:Array Value}{z:TI}(b:w.heap[u]?=some (.cells G 3 (0,0)))(e:G.toList=z.map (Value.int .i64)++[.i 7,.i 7]):Ft w (.p u) z:=fun i c=>by
 refine⟨u,0,rfl,Sp b,?_⟩;rw[Brz,Bb b i];have:G[i]?=G.toList[i]?:=Hd;rw[this,e,Br6 (by simpa using c)];simp[Vm,c]
def Bhk(b:TI)(g:Nat)(c:Array Value)(ya:TA)(yc:Nat)(w:TW)(h:w.heap[g]?=some (.cells c 3 (0,0)))(f:c.toList=b.map (Value.int .i64)++[.i 7,.i 7])(m:Ft w ya b)(C:b.length<=35000000000000):Calls prog 126 #[.s (.p g) b.length (b.length+2),.s ya b.length yc] w fun e B=>e=.r (.bool true)/\Bl w B:=by
 have j:=Ba7 b b (.p g) ya (b.length+2) yc w (Zi h f) m Ck Ck;rw[Bt5 (rfl:b=b)]at j;have q:=Bc j;have t:c[b.length]?=some (.i 7):=by
  have:c[b.length]?=c.toList[b.length]?:=Hd;rw[this,f,Br0 Hd];simp
 have v:c[b.length+1]?=some (.i 7):=by
  have:c[b.length+1]?=c.toList[b.length+1]?:=Hd;rw[this,f,Br0 Hd];simp
 have z:=Bc h;clear j h f m;go_in;go_wp2_with fail;refine Qm (Ba q) ?_;intro D A;have l:=stay A (Ba z);have F:=(Bb l b.length).trans t;have G:=(Bb l (b.length+1)).trans v;have I:(b.length:Int)<(b.length:Int)+2:=Ck;have J:(b.length:Int)+1<(b.length:Int)+2:=Ck;clear q z l t v;go_wp2;go_ret;exact⟨rfl,A⟩
def Zm(f:RFl)(b h d g:Int)(j:TI)(m:TA)(p:Nat)(w:TW)(c:b<0\/(f.ms.length:Int)<=b):Calls prog 23 #[f.val,.agg #[.i b,.s m j.length p,.i h,.i d,.i g]] w fun e q=>e=.r (.i 12)/\Bl w q:=by
 obtain⟨v,z,A,B,C,l,t⟩:=f;simp only[RFl.val]at c ⊢;by_cases D:b<0;·go_in;go_wp2;go_ret;exact⟨rfl,Bu w _ _⟩
 have F:(t.length:Int)<=b:=Ck;clear c;go_in;go_wp2;go_ret;exact⟨rfl,Bu w _ _⟩
def Bes(f:RFl)(q:Nat)(h d I:Int)(J:TI)(K:TA)(L:Nat)(w:TW)(v:f.ok w)(z:q<f.ms.length)(N:f.ms[q].1.m.params.length<=1000)(j:K7 f.ms[q].1.m=false):Calls prog 23 #[f.val,.agg #[.i (q:Int),.s K J.length L,.i h,.i d,.i I]] w fun e O=>e=.r (.i 12)/\Bl w O:=by
 obtain⟨m,g,A,a0,b,B⟩:=RFl.mth v z;obtain⟨a1,c1,a2,c2,bb,l,C⟩:=f;simp only[RFl.val]at A z N j B b ⊢;obtain⟨D,Q,V,Y,Z,i6,i7,i8,F,-⟩:=B;generalize C[q].1=M at *;obtain⟨cl,nm,pa,c,pc,r1,r2,lo,st,a3,ha,hl,p,ma,ml,mc,a4,a5⟩:=m;simp only[RMV.list]at D F b;subst D F;have y0:=b 0 _ rfl;have y1:=b 1 _ rfl;have y2:=b 2 _ rfl;have y3:=b 3 _ rfl;have y4:=b 4 _ rfl;have y5:=b 5 _ rfl;have y6:=b 6 _ rfl;have y7:=b 7 _ rfl;have y8:=b 8 _ rfl;have y9:=b 9 _ rfl;have ya:=b 10 _ rfl;have yb:=b 11 _ rfl;rw[Bvh]at y0;unfold K7 at j;generalize M.m.cl=G at *;generalize M.m.params.length=c at *;have kb:(q:Int)<(C.length:Int):=Ck;clear b Q V Y Z i6 i7 i8 v;subst A;by_cases p:G=255
 ·subst p;have a6:0<c:=by
   rcases Nat.eq_zero_or_pos c with t|t
   ·subst t;exact absurd j Fm
   exact t
  have a7:(0:Int)<(c:Int):=Ck;go_in;go_wp2;go_ret;exact⟨rfl,(Bu w _ _).alloc (by simp only[World.alloc,Btb];omega) _⟩
 have a8:(G==255)=false:=by simpa using p
 go_in;go_wp2;go_ret;exact⟨rfl,(Bu w _ _).alloc (by simp only[World.alloc,Btb];omega) _⟩
def Ber(f:RFl)(q:Nat)(h d F:Int)(b:TI)(N:TA)(ic:Nat)(w:TW)(hf:f.ok w)(hq:q<f.ms.length)(a5:f.ms[q].1.m.params.length<=1000)(O:K7 f.ms[q].1.m=true)(a9:b.length<=maxLen)(z:Ft w N b):Calls prog 23 #[f.val,.agg #[.i (q:Int),.s N b.length ic,.i h,.i d,.i F]] w fun e w'=>e=.r (.i (if h<0 then 13 else if 30<h then 13 else if d<1 then 13 else if 12<d then 13 else if F<0 then 13 else if 3000<F then 13 else if Iw b=false then 13 else 0))/\Bl w w':=by
 obtain⟨m,g,hg,b0,c,a3⟩:=RFl.mth hf hq;obtain⟨a1,c1,a2,A,bb,l,ms⟩:=f;simp only[RFl.val]at hg hq a5 O a3 c ⊢;obtain⟨i1,i2,i3,i4,i5,i6,i7,i8,i9,-⟩:=a3;generalize ms[q].1=M at *;obtain⟨cl,nm,pa,pl,pc,r1,r2,lo,st,b1,ha,hl,hc,ma,ml,mc,b2,b3⟩:=m;simp only[RMV.list]at i1 i9 c;subst i1 i9;have y0:=c 0 _ rfl;have y1:=c 1 _ rfl;have y2:=c 2 _ rfl;have y3:=c 3 _ rfl;have y4:=c 4 _ rfl;have y5:=c 5 _ rfl;have y6:=c 6 _ rfl;have y7:=c 7 _ rfl;have y8:=c 8 _ rfl;have y9:=c 9 _ rfl;have ya:=c 10 _ rfl;have yb:=c 11 _ rfl;rw[Bvh]at y0;unfold K7 at O;generalize M.m.cl=oc at *;generalize M.m.params.length=pl at *;have kb:(q:Int)<(ms.length:Int):=Ck;clear c i2 i3 i4 i5 i6 i7 i8 hf;subst hg;simp only[Bsq,Bsv]at O;obtain⟨rfl,rfl⟩:=O;generalize hV:(if h<0 then (13:Int) else _)=V
 have p:=Bc hV;clear hV;by_cases A:h<0
 ·have t:Hid (V=13):=by unfold Hid;rw[<- Ba p,Th A]
  clear p z;go_in;go_wp2;go_ret;exact⟨by rw[Ba t];rfl,(Bu w _ _).alloc (by simp only[World.alloc,Btb];omega) _⟩
 by_cases D:30<h
 ·have t:Hid (V=13):=by unfold Hid;rw[<- Ba p,Pk A,Th D]
  clear p z;go_in;go_wp2;go_ret;exact⟨by rw[Ba t];rfl,(Bu w _ _).alloc (by simp only[World.alloc,Btb];omega) _⟩
 by_cases G:d<1
 ·have t:Hid (V=13):=by unfold Hid;rw[<- Ba p,Pk A,Pk D,Th G]
  clear p z;go_in;go_wp2;go_ret;exact⟨by rw[Ba t];rfl,(Bu w _ _).alloc (by simp only[World.alloc,Btb];omega) _⟩
 by_cases Q:12<d
 ·have t:Hid (V=13):=by unfold Hid;rw[<- Ba p,Pk A,Pk D,Pk G,Th Q]
  clear p z;go_in;go_wp2;go_ret;exact⟨by rw[Ba t];rfl,(Bu w _ _).alloc (by simp only[World.alloc,Btb];omega) _⟩
 by_cases Z:F<0
 ·have t:Hid (V=13):=by unfold Hid;rw[<- Ba p,Pk A,Pk D,Pk G,Pk Q,Th Z]
  clear p z;go_in;go_wp2;go_ret;exact⟨by rw[Ba t];rfl,(Bu w _ _).alloc (by simp only[World.alloc,Btb];omega) _⟩
 by_cases c7:3000<F
 ·have t:Hid (V=13):=by unfold Hid;rw[<- Ba p,Pk A,Pk D,Pk G,Pk Q,Pk Z,Th c7]
  clear p z;go_in;go_wp2;go_ret;exact⟨by rw[Ba t];rfl,(Bu w _ _).alloc (by simp only[World.alloc,Btb];omega) _⟩
 have Y:Hid ((if Iw b=false then (13:Int) else 0)=V):=by unfold Hid;rw[<- Ba p,Pk A,Pk D,Pk G,Pk Q,Pk Z,Pk c7]
 clear p;by_cases c8:20<b.length
 ·have t:Hid (V=13):=by unfold Hid;rw[<- Ba Y,Iw,Th c8];rfl
  have a6:(20:Int)<(b.length:Int):=Ck;clear Y z;go_in;go_wp2;go_ret;exact⟨by rw[Ba t];rfl,(Bu w _ _).alloc (by simp only[World.alloc,Btb];omega) _⟩
 have a6:¬(20:Int)<(b.length:Int):=Ck;have B:Hid ((if Ii (b.drop 0)=false then (13:Int) else 0)=V):=by unfold Hid;rw[<- Ba Y,Iw,Pk c8];rfl
 clear Y;have I:=Bc z;clear z;go_in;go_wp2;generalize J:World.alloc (World.alloc (World.alloc w _) _) _=K;have L:Bl w K:=by rw[<- J];exact(Bu w _ _).alloc (by simp only[World.alloc,Btb];omega) _
 have z9:K.cell? { block:=w.heap.size+1,off:=1 }=some (.s N b.length ic):=by
  rw[<- J];exact Bb (stay (Bs4 (Brm _ _) (Bru _) _) (Bx w _ _)) 1
 have b4:w.heap.size+1<K.heap.size:=by rw[<- J];clear J I B L z9;simp only[World.alloc,Btb];omega
 replace I:Hid (Ft K N b):=Bc ((Ba I).below L);clear J y0 y1 y2 y3 y4 y5 y6 y7 y8 y9 ya yb
 go_loopw [6] (fun v wr=>∃k:Nat,k<=b.length/\v=.i (k:Int)/\Hid ((if Ii (b.drop k)=false then (13:Int) else 0)=V)/\wr=K)
  (fun v _=>b.length-(intOf v).toNat)
 case atStart=>exact⟨0,Ck,rfl,B,rfl⟩
 case round=>
  clear B;obtain⟨k,hk,rfl,B,rfl⟩:=hrel;by_cases a0:k<b.length
  ·obtain⟨g2,o,a7,b5,z0⟩:=Ba I k a0;have j:=Ba B;rw[Brj a0,Ii]at j;have ey:b.getD k 0=b[k]:=by simp[Vm,a0]
   rw[ey]at z0;generalize b[k]=x at *;have a8:(k:Int)<(b.length:Int):=Ck;clear B I ey;subst a7;by_cases hx:x < -2147483648;·rw[Th hx]at j;have C:=Bc j;clear j;go_wp2;go_ret;exact⟨by rw[<- Ba C];rfl,L⟩
   rw[Pk hx]at j;by_cases a4:2147483647<x;·rw[Th a4]at j;have C:=Bc j;clear j;go_wp2;go_ret;exact⟨by rw[<- Ba C];rfl,L⟩
   rw[Pk a4]at j;have C:Hid ((if Ii (b.drop (k+1))=false then (13:Int) else 0)=V):=j
   clear j;go_wp2;go_roundw
   case rel=>exact⟨k+1,Ck,Mg,C,trivial⟩
   case measure=>simp[intOf];omega
  have j:=Ba B;rw[Brq Ck,Ii]at j;have C:=Bc j;have a8:¬(k:Int)<(b.length:Int):=Ck;clear j B;go_wp2;go_ret;exact⟨by rw[<- Ba C];rfl,L⟩
def Bg0(f:RFl)(c h d g:Int)(b:TI)(j:TA)(l:Nat)(w:TW)(A:f.ok w)(C:∀q∈f.ms,q.1.m.params.length<=1000)(D:b.length<=maxLen)(F:Ft w j b):Calls prog 23 #[f.val,.agg #[.i c,.s j b.length l,.i h,.i d,.i g]] w fun e G=>e=.r (.i (Gl (f.ms.map fun q=>q.1.m) c b h d g))/\Bl w G:=by
 unfold Gl Jp;rw[Br1];by_cases v:c<0;·rw[Th v,Th rfl];exact Zm f c h d g b j l w (Or.inl v)
 rw[Pk v];by_cases z:(f.ms.length:Int)<=c;·rw[Th z,Th rfl];exact Zm f c h d g b j l w (Or.inr z)
 rw[Pk z];obtain⟨q,rfl⟩:=Brp (show 0<=c by omega);have p:q<f.ms.length:=Ck;have I:(f.ms.map fun q=>q.1.m).getD (Int.toNat (q:Int)) Ef=f.ms[q].1.m:=by simp[Vm,p]
 rw[I];have B:=C _ (Brn p);by_cases t:K7 f.ms[q].1.m=false;·rw[Th t];exact Bes f q h d g b j l w A p B t
 rw[Pk t];exact Ber f q h d g b j l w A p B (by simpa using t) D F
def Bmj{w s:TW}{u b t n:Nat}{l:TX}{e:TV}(h:w.ownsRow u b t l n e)(i:∀j,l.ownBlock=some j->s.heap[j]?=w.heap[j]?):s.ownsRow u b t l n e:=by
 obtain⟨c,m|⟨g,p,q,f,v,z,r⟩⟩:=h
 ·exact⟨c,.inl m⟩
 exact⟨c,.inr ⟨g,p,q,f,v,(i g (by rw[f];rfl)).trans z,r⟩⟩
structure Rw where
 t:TypeId
 z:Nat
 v:Value
 n:Nat
 cs:List Value
def Rw.at(r:Rw)(b:Nat)(w:TW):Prop:=w.ownsRow b r.t r.z r.v r.n r.cs
structure Own(w0:World)(L:List Rw)(w:World):Prop where
 row:∀r∈L,r.at w0.heap.size w
 nd:L.Pairwise fun a b=>∀j,a.v.ownBlock=some j->b.v.ownBlock≠some j
 low:Below w0.heap.size w0 w
def Own.sub{v w:TW}{f b:List Rw}(h:Own v f w)(s:b.Sublist f):Own v b w:=⟨fun r c=>h.row r (s.subset c),h.nd.sublist s,h.low⟩
def Own.perm{v w:TW}{f b:List Rw}(h:Own v f w)(s:f.Perm b):Own v b w :=
 ⟨fun r c=>h.row r (s.mem_iff.2 c),(List.Perm.pairwise_iff (fun k j e g=>k j g e) s).1 h.nd,h.low⟩
def Own.mid{v w:TW}{L X:List Rw}{r:Rw}(h:Own v (r::(L++X)) w):Own v (L++r::X) w:=h.perm List.perm_middle.symm
def Own.unmid{v w:TW}{f X:List Rw}{r:Rw}(h:Own v (f++r::X) w):Own v (r::(f++X)) w:=h.perm List.perm_middle
def Own.below{v w b:TW}{f:List Rw}(h:Own v f w)(c:Bl w b):Own v f b :=
 ⟨fun r e=>Bmj (h.row r e) (fun j g=>c.block j ((h.row r e).lt j g).2),h.nd,h.low.trans (c.mono h.low.size)⟩
def Own.add{c w:TW}{f:List Rw}{r:Rw}(h:Own c f w)(e:r.at c.heap.size w)(g:∀j,r.v.ownBlock=some j->∀x∈f,x.v.ownBlock≠some j):Own c (r::f) w :=
 ⟨fun x b=>by rcases List.mem_cons.1 b with rfl|b;exact e;exact h.row x b,List.pairwise_cons.2 ⟨fun x b j i=>g j i x b,h.nd⟩,h.low⟩
def Own.add_new{c w b:TW}{f:List Rw}{r:Rw}(h:Own c f w)(m:Bl w b)(i:b.ownsRow w.heap.size r.t r.z r.v r.n r.cs):Own c (r::f) b:=by
 refine(h.below m).add ?_ (fun j p x q e=>?_)
 ·obtain⟨l,s|⟨g,A,B,C,D,r⟩⟩:=i
  ·exact⟨l,.inl s⟩
  exact⟨l,.inr ⟨g,A,B,C,Br5 h.low.size D,r⟩⟩
 have:=(i.lt j p).1;have:=((h.row x q).lt j e).2;omega
def Own.add_nil{v w:TW}{f:List Rw}(h:Own v f w)(t:TypeId)(z:Nat):Own v (⟨t,z,.s none 0 0,0,[]⟩::f) w :=
 h.add (Brw _ _ _ _) (fun j b=>by simp[Value.ownBlock]at b)
def Own.var{v w:TW}{f:List Rw}(h:Own v f w)(b:Array Value)(t:TypeId):Own v (⟨t,b.size,.s (.p w.heap.size) 1 1,1,b.toList⟩::f) (w.alloc (.cells b t)) :=
 h.add_new (QN _) (World.ownsRow_lit w b 1 (Bru _) Fm Hd)
def Own.upd{i w l:TW}{f p:List Rw}{r m:Rw}(h:Own i (f++r::p) w)(b:w.grownBy l r.v.ownBlock)(z:m.at i.heap.size l)(A:∀j,m.v.ownBlock=some j->r.v.ownBlock=some j\/w.heap.size<=j):Own i (f++m::p) l:=by
 have c:=h.unmid;refine Own.mid (Own.add ⟨fun x g=>?_,(List.pairwise_cons.1 c.nd).2,?_⟩ z (fun j B x g e=>?_))
 ·refine(c.row x (by simp[g])).kept b ?_;cases e:x.v.ownBlock with
  | none=>exact .inl rfl
  | some j=>exact .inr (fun C=>(List.pairwise_cons.1 c.nd).1 x g j C.symm e)
 ·exact⟨b.os.trans h.low.os,b.tape.trans h.low.tape,b.output.trans h.low.output,Br5 h.low.size b.size,
   fun q s=>(b.block q (Brs s h.low.size) (fun e=>by have:=((c.row r Hd).lt q e.symm).1;omega)).trans (h.low.block q s)⟩
 rcases A j B with t|t
 ·exact(List.pairwise_cons.1 c.nd).1 x g j t e
 have:=((c.row x (by simp[g])).lt j e).2;omega
def Own.at{v w:TW}{f:List Rw}(h:Own v f w){u:Nat}{r:Rw}(b:f[u]?=some r):r.at v.heap.size w:=h.row r (Bs6 b)
def Own.put{b w c:TW}{f:List Rw}{u:Nat}{r g:Rw}(h:Own b f w)(l:f[u]?=some r)(m:w.grownBy c r.v.ownBlock)(p:g.at b.heap.size c)(q:∀j,g.v.ownBlock=some j->r.v.ownBlock=some j\/w.heap.size<=j):Own b (f.set u g) c:=by
 obtain⟨s,e⟩:=List.getElem?_eq_some_iff.1 l;have t:f=f.take u++r::f.drop (u+1):=by rw[<- e,List.getElem_cons_drop,Bua]
 rw[Bu8,Th s];rw[t]at h;exact h.upd m p q
def Own.app{v w p:TW}{f:List Rw}{i n:Nat}{j:TypeId}{t:Nat}{l g:TX}{e J:TV}(h:Own v f w){O:Nat}(s:f[i]?=some ⟨j,t,l,n,e⟩)(A:p.ownsRow v.heap.size j t g O J)(B:w.grownBy p l.ownBlock)(C:g.ownBlock=l.ownBlock\/g.ownBlock=some w.heap.size):Own v (f.set i ⟨j,t,g,O,J⟩) p :=
 h.put s B A (fun b q=>by
  rcases C with c|c
  ·exact .inl (by rw[<- c];exact q)
  exact .inr (by rw[c]at q;simp at q;omega))
def Own.cell{v w:TW}{f:List Rw}{i n t O:Nat}{b:TypeId}{z:Nat}{e:TV}(h:Own v f w)(l:f[i]?=some ⟨b,z,.s (.p t) n O,n,e⟩)(j:Nat)(u:TX):Own v (f.set i ⟨b,z,.s (.p t) n O,n,e.set j u⟩) (w.setCell (.a t j) u):=by
 obtain⟨m,q⟩:=World.ownsRow.stored (h.at l) j u;exact h.put l q m (fun j A=>.inl A)
def Own.cellE{v w:TW}{f:List Rw}{i n t O:Nat}{j:TypeId}{z:Nat}{e J:TV}(h:Own v f w)(q:f[i]?=some ⟨j,z,.s (.p t) n O,n,e⟩){b:Nat}{l:TX}(m:e.set b l=J):Own v (f.set i ⟨j,z,.s (.p t) n O,n,J⟩) (w.setCell (.a t b) l):=by
 rw[<- m];exact h.cell q b l
def Bit{w:TW}{u b t n f c:Nat}{a:TA}{e:TV}(h:w.ownsRow u b t (.s a n c) n e)(j:f<=n):w.ownsRow u b t (.s a f c) f (e.take (f*t)):=by
 obtain⟨l,⟨i,C⟩|⟨g,D,m,i,p,q,F,v,A,B⟩⟩:=h
 ·simp only[Value.slice.injEq]at i;obtain⟨rfl,rfl,rfl⟩:=i;obtain rfl:f=0:=Ck;exact⟨Hd,.inl ⟨rfl,rfl⟩⟩
 simp only[Value.slice.injEq,Buw]at i;obtain⟨rfl,rfl⟩:=i;have:f*t<=n*t:=Bwz _ j;refine⟨by rw[Btr,l];omega,.inr ⟨g,c,m,rfl,p,q,Ck,v,A,?_⟩⟩;rw[<- B,Btw,Bum this]
def Own.cut{v w:TW}{f:List Rw}{i n t n':Nat}{a:TA}{j:TypeId}{z:Nat}{e:TV}(h:Own v f w)(g:f[i]?=some ⟨j,z,.s a n t,n,e⟩)(l:n'<=n):Own v (f.set i ⟨j,z,.s a n' t,n',e.take (n'*z)⟩) w :=
 h.put g ⟨rfl,rfl,rfl,Bru _,fun _ _ _=>rfl⟩ (Bit (h.at g) l) (fun b m=>.inl (by cases a<;>exact m))
def Own.nil{v w:TW}{f:List Rw}{i:Nat}{r:Rw}(h:Own v f w)(b:f[i]?=some r)(t:TypeId)(z:Nat):Own v (f.set i ⟨t,z,.s none 0 0,0,[]⟩) w :=
 h.put b ⟨rfl,rfl,rfl,Bru _,fun _ _ _=>rfl⟩ (Brw _ _ _ _) (fun j c=>by simp[Value.ownBlock]at c)
theorem Own.see{v w:World}{L:List Rw}{i n t O:Nat}{b:TypeId}{z:Nat}{e:List Value}(h:Own v L w)(p:L[i]?=some ⟨b,z,.slice (some ⟨t,0,none⟩) n O,n,e⟩){j:Nat}{l:Value}(f:e[j]?=some l):w.cell? ⟨t,j,none⟩=some l:=by
 have m:w.ownsRow v.heap.size b z (.slice (some ⟨t,0,none⟩) n O) n e:=h.at p;rw[World.ownsRow.cellAt m j (by have:=m.1;have:=(List.getElem?_eq_some_iff.1 f).1;omega),f]
def Own.free{v w:TW}{L:List Rw}{i n t O:Nat}{j:TypeId}{z:Nat}{e:TV}(h:Own v L w)(f:L[i]?=some ⟨j,z,.s (.p t) n O,n,e⟩)(b:Nat):w.frozen? (.a t b)=false:=World.ownsRow.frozenAt (h.at f) b
def Own.lt{v w:TW}{L:List Rw}{i n t O:Nat}{j:TypeId}{z:Nat}{e:TV}(h:Own v L w)(b:L[i]?=some ⟨j,z,.s (.p t) n O,n,e⟩):v.heap.size<=t/\t<w.heap.size:=(h.at b).lt t rfl
def Own.drewN{v w:TW}{f:List Rw}(h:Own v f w)(n:Nat):Own v f (w.drewN n):=h.below ⟨rfl,rfl,rfl,Bru _,fun _ _=>rfl⟩
def Own.drew{v w:TW}{f:List Rw}(h:Own v f w):Own v f w.drew:=h.below ⟨rfl,rfl,rfl,Bru _,fun _ _=>rfl⟩
def Bak{P:Program}{B:Array Oper}{o:Oper}{a:Act}{w:TW}{K:Act->TW->Prop}{Q:Exit->Act->TW->Prop}{E:Prop} (C:o.guard=none)(s x:Operand)(t:TypeId)(D:o.op=Op.call { callee:=Callee.builtin Builtin.append,args:=#[s,x],argTypes:=#[t,t] }) (l:Nat)(e:TypeId)(i:TypeInfo)(z:TX)(b p:Nat)(F:P.underlying t=some (.s e))(G:P.info? e=some i)(I:i.zero=some z)(J:i.size=b)(L:i.bytes=p)(N:z.cells.size=b)(O:0<b) (v:TX)(n:Nat)(q:TV)(V:a.eval s=v)(Y:w.ownsRow l e b v n q) (A:Addr)(m c:Nat)(g:TV)(Z:a.eval x=.s (some A) m c)(hn:g.length=m*b)(hc:∀j u,g[j]?=some u->w.cell? (A.add j)=some u)(a0:∀u∈g,u.oneCell'=true) (b1:n+m<=maxLen)(b2:(n+m)*p<=140737488355328)(b3:l<=w.heap.size) (hK:∀f h,h.ownsRow l e b f (n+m) (q++g)->w.grownBy h v.ownBlock->(f.ownBlock=v.ownBlock\/f.ownBlock=some w.heap.size)->K (a.put o.dst f) h):if Region.wanted o (yielded B a.tmps)=true then Oper.wp P o a w K Q else E:=by
 have hw:Region.wanted o (yielded B a.tmps)=true:=by simp[Region.wanted,C]
 rw[Th hw];obtain⟨f,h,a1,r1,r2,_,r3⟩:=run_append_own_at (P:=P) w l t o.type e i z b p F G I J L N O v n q Y A m c g hn hc a0 b1 b2 b3;unfold Oper.wp;simp[execOp,D,resolve,invoke,builtin,V,Z,a1,Result.andThen];exact hK f h r1 r2 r3
structure Bz where
 m:Nat
 p:Nat
 lo:List (Int × Int)
 st:List (Int × Int)
structure Dj where
 cl:Int
 set:Bool
 vals:List (Int × Int)
structure Cv where
 os:List Bz
 ts:List Dj
 made:Nat
 read:Nat
 out:List Int
 steps:Nat
 status:Int
 value:Int
structure Cz where
 B:Nat
 w0:World
 f:RFl
 cs:List Rd.Cls
 ms:List Rd.Mth
 en:Int
 ia:Option Addr
 ic:Nat
 ins:List Int
 heap:Int
 depth:Int
 fuel:Int
structure Br where
 os:List (Bz × Value × Value)
 ts:List (Dj × Value)
 made:Nat
 read:Nat
 out:List Int
 steps:Nat
 status:Int
 value:Int
 oa:Option Addr
 oc:Nat
 ta:Option Addr
 tc:Nat
 xa:Option Addr
 xc:Nat
def Br.d (M:Br):Cv:=⟨M.os.map Prod.fst,M.ts.map Prod.fst,M.made,M.read,M.out,M.steps,M.status,M.value⟩
def Fe (x:Bz × Value × Value):List Value:=[.int .i64 (x.1.m:Int),.int .i64 (x.1.p:Int),x.2.1,x.2.2]
def If (x:Dj × Value):List Value:=[.int .i64 x.1.cl,.bool x.1.set,x.2]
def Da (v:TX)(l:TP):Rw:=⟨240,2,v,l.length,Bp l⟩
def Br.cells(k:Cz)(M:Br):List Value :=
 [.slice k.f.a1 k.f.l.length k.f.c1,.slice k.f.a2 k.f.ms.length k.f.c2,.int .i64 k.en,.slice k.ia k.ins.length k.ic,.int .i64 k.heap,.int .i64 k.depth,.int .i64 k.fuel,
 .slice M.oa M.os.length M.oc,.slice M.ta M.ts.length M.tc,.int .i64 (M.made:Int),.int .i64 (M.read:Int),.slice M.xa M.out.length M.xc,.int .i64 (M.steps:Int),.int .i64 M.status,.int .i64 M.value,.bool false]
def J3 (x:Bz × Value × Value):List Rw:=[Da x.2.1 x.1.lo,Da x.2.2 x.1.st]
def Jw (x:Dj × Value):Rw:=Da x.2 x.1.vals
def Br.rows(k:Cz)(M:Br):List Rw :=
 ⟨115,16,.slice (some ⟨k.B,0,none⟩) 1 1,1,M.cells k⟩::⟨171,4,.slice M.oa M.os.length M.oc,M.os.length,M.os.reverse.flatMap Fe⟩ ::
 ⟨118,3,.slice M.ta M.ts.length M.tc,M.ts.length,M.ts.flatMap If⟩::⟨3,1,.slice M.xa M.out.length M.xc,M.out.length,M.out.map (Value.int .i64)⟩::(M.os.flatMap J3++M.ts.map Jw)
abbrev Bm(k:Cz)(M:Br)(X:List Rw)(w:World):Prop:=Own k.w0 (M.rows k++X) w
def Bm.cell{k:Cz}{M:Br}{X:List Rw}{w:TW}(h:Bm k M X w){j:Nat}{l:TX}(b:(M.cells k)[j]?=some l):w.C k.B j l :=
 Own.see (i:=0) (L:=M.rows k++X) h Ls b
def Bm.fz{k:Cz}{M:Br}{X:List Rw}{w:TW}(h:Bm k M X w)(j:Nat):w.frozen? (.a k.B j)=false :=
 Own.free (i:=0) (L:=M.rows k++X) h Ls j
def Bm.ltB{k:Cz}{M:Br}{X:List Rw}{w:TW}(h:Bm k M X w):k.B<w.heap.size:=(Own.lt (i:=0) (L:=M.rows k++X) h Ls).2
def Oq(r:List (Bz×Value×Value)):(r.reverse.flatMap Fe).length=r.length*4:=by rw[Kx Fe 4 (fun _=>rfl)];simp
def Bcj(x:Bz×Value×Value)(r:List (Bz×Value×Value))(j:Nat):((x::r).reverse.flatMap Fe)[r.length*4+j]?=(Fe x)[j]?:=by
 rw[Btp,Bst,Br0 (by rw[Oq];omega),Oq,Btu];simp
def Tv(x b:Bz×Value×Value)(r:List (Bz×Value×Value))(j:Nat)(u:TX)(h:(Fe x).set j u=Fe b):((x::r).reverse.flatMap Fe).set (r.length*4+j) u=(b::r).reverse.flatMap Fe:=by
 rw[Btp,Bst,Bs9 _ _ (by rw[Oq];omega),Oq,Btu,Btp,Bst];simp[h]
def Bm.orow{k:Cz}{M:Br}{X:List Rw}{w:TW}(h:Bm k M X w):w.ownsRow k.w0.heap.size 171 4 (.s M.oa M.os.length M.oc) M.os.length (M.os.reverse.flatMap Fe):=h.row ⟨_,_,_,_,_⟩ (Bsh _ (Bsd ..))
def Bm.hrow{k:Cz}{M:Br}{X:List Rw}{w:TW}(h:Bm k M X w):w.ownsRow k.w0.heap.size 118 3 (.s M.ta M.ts.length M.tc) M.ts.length (M.ts.flatMap If):=h.row ⟨_,_,_,_,_⟩ (Bsh _ (Bsh _ (Bsd ..)))
def Bm.xrow{k:Cz}{M:Br}{X:List Rw}{w:TW}(h:Bm k M X w):w.ownsRow k.w0.heap.size 3 1 (.s M.xa M.out.length M.xc) M.out.length (M.out.map (Value.int .i64)):=h.row ⟨_,_,_,_,_⟩ (Bsh _ (Bsh _ (Bsh _ (Bsd ..))))
def Bm.lrow{k:Cz}{M:Br}{X:List Rw}{w:TW}(h:Bm k M X w){x:Bz×Value×Value}{r:List (Bz×Value×Value)}(b:M.os=x::r):w.ownsRow k.w0.heap.size 240 2 x.2.1 x.1.lo.length (Bp x.1.lo):=h.row (Da x.2.1 x.1.lo) (by simp[Br.rows,b,J3])
def Bm.srow{k:Cz}{M:Br}{X:List Rw}{w:TW}(h:Bm k M X w){x:Bz×Value×Value}{r:List (Bz×Value×Value)}(b:M.os=x::r):w.ownsRow k.w0.heap.size 240 2 x.2.2 x.1.st.length (Bp x.1.st):=h.row (Da x.2.2 x.1.st) (by simp[Br.rows,b,J3])
theorem Bm.last{k:Cz}{M:Br}{X:List Rw}{w:World}(h:Bm k M X w){x:Bz×Value×Value}{r:List (Bz×Value×Value)}(c:M.os=x::r):∃g,M.oa=some ⟨g,0,none⟩/\g<w.heap.size/\(∀j u,(Fe x)[j]?=some u->w.cell? ⟨g,r.length*4+j,none⟩=some u)/\∀j,w.frozen? ⟨g,j,none⟩=false:=by
 have b:=h.orow;obtain⟨g,e,l,_,f⟩:=Cf b (by rw[c];simp);refine⟨g,e,l,fun j u i=>?_,fun j=>?_⟩
 ·have m:=(List.getElem?_eq_some_iff.1 i).1;rw[c]at f;rw[f _ (by
   rw[Kx Fe 4 (fun _=>rfl)];have:j<4:=m;simp;omega),Bcj,i]
 rw[e]at b;exact World.ownsRow.frozenAt b j
def Bm.fok{k:Cz}{M:Br}{X:List Rw}{w:TW}(h:Bm k M X w)(b:k.f.ok k.w0):k.f.ok w:=b.below h.low
def Bm.below{k:Cz}{M:Br}{X:List Rw}{w s:TW}(h:Bm k M X w)(b:Bl w s):Bm k M X s:=Own.below h b
def Tryz.infoVal:(prog.info? 240).map (fun i=>(i.zero,i.size,i.bytes))=some (some (.agg #[.i 0,.i 0]),2,16):=Lt
def Br.put(M:Br)(os:List (Bz × Value × Value)):Br:=⟨os,M.ts,M.made,M.read,M.out,M.steps,M.status,M.value,M.oa,M.oc,M.ta,M.tc,M.xa,M.xc⟩
def Bn8{k:Cz}{M:Br}{X:List Rw}{w w9:TW}{o:Bz}{lv sv sv':TX}{r:List (Bz×Value×Value)}{v:Int×Int}{u:Nat}(h:Bm k M X w)(f:M.os=(o,lv,sv)::r)(l:M.oa=some ⟨u,0,none⟩) (q:w9.ownsRow k.w0.heap.size 240 2 sv' (o.st.length+1) (Bp o.st++[.i v.1,.i v.2]))(t:w.grownBy w9 sv.ownBlock)(z:sv'.ownBlock=sv.ownBlock\/sv'.ownBlock=some w.heap.size):(w9.C k.B 7 (.s (.p u) (r.length+1) M.oc))/\(w9.C u (r.length*4+3) sv)/\w9.frozen? (.a u (r.length*4+3))=false/\Bm k (M.put ((⟨o.m,o.p,o.lo,o.st++[v]⟩,lv,sv')::r)) X (w9.setCell (.a u (r.length*4+3)) sv'):=by
 obtain⟨I,J,K,L,N,O,Q,V,Y,Z,ta,tc,xa,xc⟩:=M;simp only at f l;subst f l;have b:=Own.app (i:=5) h Ls q t z;have A:=Own.see (i:=0) (j:=7) b Ls Ls;have D:=Own.see (i:=1) (j:=r.length*4+3) b Ls (Bcj _ _ _);have F:=Own.free (i:=1) b Ls (r.length*4+3);have e:Bp (o.st++[v])=Bp o.st++[.i v.1,.i v.2]:=Uf _ _;have c:=Own.cellE (i:=1) b Ls (Tv (o,lv,sv) (⟨o.m,o.p,o.lo,o.st++[v]⟩,lv,sv') r 3 sv' rfl);rw[<- e]at c;have G:(o.st++[v]).length=o.st.length+1:=Hd;rw[<- G]at c;exact⟨A,D,F,c⟩
def RFl.stk{f:RFl}{w:TW}(b:f.ok w){k:Nat}(c:k<f.ms.length):∃g,f.a2=some ⟨g,0,none⟩/\g<w.heap.size/\w.C g (k*12+6) (.i f.ms[k].1.m.stack):=by
 obtain⟨m,g,e,h,j,l⟩:=RFl.mth b c;refine⟨g,e,h,?_⟩;rw[<- l.st];exact j 6 _ rfl
def Bq4{k:Cz}{M:Br}{X:List Rw}{w:TW}(z:k.f.ok k.w0){o:Bz}{lv sv:TX}{r:List (Bz×Value×Value)}(h:Bm k (M.put ((o,lv,sv)::r)) X w)(A:o.m<k.f.ms.length){u b:Nat}(c:M.oa=some ⟨u,0,none⟩)(l:k.f.a2=some ⟨b,0,none⟩):w.C k.B 7 (.s (.p u) (r.length+1) M.oc)/\w.C k.B 1 (.s (.p b) k.f.ms.length k.f.c2)/\w.C u (r.length*4) (.i (o.m:Int))/\w.C u (r.length*4+3) sv/\w.C b (o.m*12+6) (.i k.f.ms[o.m].1.m.stack):=by
 obtain⟨D,F,_,q,_⟩:=h.last rfl;obtain⟨G,I,_,J⟩:=RFl.stk (h.fok z) A;have e:D=u:=by
  have:=F.symm.trans (show (M.put ((o,lv,sv)::r)).oa=_ from c);simpa using this
 have K:G=b:=by
  have:=I.symm.trans l;simpa using this
 subst e K;have L:=h.cell (j:=7) Ls;have t:=h.cell (j:=1) Ls;rw[l]at t;have v:w.C k.B 7 (.s M.oa (r.length+1) M.oc):=L;rw[c]at v;exact⟨v,t,q 0 _ rfl,q 3 _ rfl,J⟩
theorem Ja(k:Cz)(M:Br)(X:List Rw)(o:Bz)(lv sv:Value)(r:List (Bz×Value×Value))(a b:Int)(w:World)(hf:k.f.ok k.w0)(h:Bm k M X w)(hM:M.os=(o,lv,sv)::r)(hm:o.m<k.f.ms.length)(hl:(o.st.length:Int)<k.f.ms[o.m].1.m.stack)(hr:r.length<=1000)(hs:o.st.length<=1000):Calls prog 147 #[.pointer (some ⟨k.B,0,none⟩),.agg #[.int .i64 a,.int .i64 b]] w fun e w'=>e=.returned (.tuple #[])/\∃sv',Bm k (M.put ((⟨o.m,o.p,o.lo,o.st++[(a,b)]⟩,lv,sv')::r)) X w':=by
 obtain⟨i0,hi,hz0,hz1,hz2⟩:=Bsa Tryz.infoVal;have h1:Bm k M X (w.alloc (O33 a b)):=h.below (QN _);have hC:=Be w (O33 a b);have v0:(w.alloc (O33 a b)).cell? ⟨w.heap.size,0,none⟩=some (.int .i64 a):=(Bb hC 0).trans rfl;have v1:(w.alloc (O33 a b)).cell? ⟨w.heap.size,1,none⟩=some (.int .i64 b):=(Bb hC 1).trans rfl;obtain⟨sa,sc,hsv⟩:∃a c,sv=.slice a o.st.length c:=Bh (h1.srow hM);subst hsv;obtain⟨g,hg,hglt,hgc,hgf⟩:=h1.last hM;have c7:(w.alloc (O33 a b)).cell? ⟨k.B,7,none⟩=some (.slice (some ⟨g,0,none⟩) (r.length+1) M.oc):=by
  rw[<- hg,show r.length+1=M.os.length by rw[hM];rfl];exact h1.cell Ls
 have g3:=hgc 3 _ rfl;have hBlt:=h1.ltB;have hrow:=h1.srow hM;have hsz:=h.low.size;have hbx:some w.heap.size≠(Value.slice sa o.st.length sc).ownBlock:=fun e=>by have:=((h.srow hM).lt _ e.symm).2;omega
 have HP:=Bc (fun (w' w9:World) sv' (hb:Below (w.alloc (O33 a b)).heap.size (w.alloc (O33 a b)) w') ho hk hat=>Bn8 (v:=(a,b)) (w9:=w9) (sv':=sv') (h1.below hb) hM hg ho hk hat);have hbg:some w.heap.size≠some g:=fun e=>by
  obtain⟨g',e1,e2,_⟩:=h.last hM;rw[hg]at e1;simp at e1 e;omega
 obtain⟨fg,hfg,hflt,hfc⟩:=RFl.stk (h1.fok hf) hm;have HS:=Bc (fun (w9:World) (sv':Value) (h9:Bm k (M.put ((⟨o.m,o.p,o.lo,o.st++[(a,b)]⟩,lv,sv')::r)) X w9)=>Bq4 hf h9 hm hg hfg);clear h hgc hgf hg;have hr0:IntKind.i64.wrap (((r.length+1:Nat):Int)-1)=(r.length:Int):=by rw[show ((r.length+1:Nat):Int)-1=(r.length:Int) by omega];exact Cx _ Ck Ck
 generalize hn:o.st.length=n at *;generalize r.length=rl at *;have ri:(rl:Int)<(rl:Int)+1:=Ck;have a7:=fun z=>(Bsu (w.alloc (O33 a b)) z ⟨k.B,7,none⟩ hBlt).trans c7;have a0:=fun z=>(Bsu (w.alloc (O33 a b)) z ⟨w.heap.size,0,none⟩ Hd).trans v0;have a1:=fun z=>(Bsu (w.alloc (O33 a b)) z ⟨w.heap.size,1,none⟩ Hd).trans v1;have a3:=fun z=>(Bsu (w.alloc (O33 a b)) z ⟨g,rl*4+3,none⟩ hglt).trans g3;go_in;go_wp2_with fail
 go_upto_region 2 with fail
 refine Br4 (S:=fun w'=>w'.cell? ⟨k.B,7,none⟩=some (.slice (some ⟨g,0,none⟩) (rl+1) M.oc)/\w'.cell? ⟨w.heap.size,0,none⟩=some (.int .i64 a)/\w'.cell? ⟨w.heap.size,1,none⟩=some (.int .i64 b)) Lt ⟨c7,v0,v1⟩ (fun hHeld=>?_);refine tq 0 (.pointer (some ⟨k.B,0,none⟩)) hHeld ?_;refine tq 1 (.pointer (some ⟨k.B,0,none⟩)) hHeld ?_;refine tq 2 (.pointer (some ⟨k.B,7,none⟩)) hHeld ?_;refine tq 3 (.slice (some ⟨g,0,none⟩) (rl+1) M.oc) hHeld ?_;refine tq 4 (.int .i64 (rl:Int)) hHeld ?_;refine tq 5 (.pointer (some ⟨k.B,0,none⟩)) hHeld ?_;refine tq 6 (.pointer (some ⟨k.B,0,none⟩)) hHeld ?_;refine tq 7 (.pointer (some ⟨k.B,7,none⟩)) hHeld ?_;refine tq 8 (.slice (some ⟨g,0,none⟩) (rl+1) M.oc) hHeld ?_;refine tq 9 (.int .i64 (rl:Int)) hHeld ?_;refine tq 10 (.pointer (some ⟨g,rl*4,none⟩)) hHeld ?_;refine tq 11 (.pointer (some ⟨g,rl*4+3,none⟩)) hHeld ?_;refine tq 13 (.agg #[.int .i64 a,.int .i64 b]) hHeld ?_;refine Brv (rs:=[12,14]) Lt Hd ?_;refine Bri (o:=⟨_,_,_,_,_,_⟩) rfl (fun K hK=>?_) (Bri (o:=⟨_,_,_,_,_,_⟩) rfl (fun K hK=>?_) Bro);go_simp;refine hK.out _ _ ⟨c7,v0,v1⟩ (fun hHeld=>?_);clear hK K
 try simp only[QX]
 refine tr 14 fun K hK=>?_;go_simp;refine hK.out _ _ ⟨a7 _,a0 _,a1 _⟩ (fun hHeld=>?_);clear hK K
 try simp only[QX]
 rotate_left
 go_simp;refine hK.out _ _ ⟨a7 _,a0 _,a1 _⟩ (fun hHeld=>?_);clear hK K
 try simp only[QX]
 refine tr 12 fun K hK=>?_;go_simp;refine hK.out _ _ ⟨a7 _,a0 _,a1 _⟩ (fun hHeld=>?_);clear hK K
 try simp only[QX]
 all_goals
  refine tr 15 fun K hK=>?_;refine Bak Ls _ _ _ Ls k.w0.heap.size 240 i0 _ 2 16 Bu5 hi hz0 hz1 hz2 rfl Ck _ _ _ Ls ((hrow.alloc _).drew) ⟨w.heap.size+1,0,none⟩ 1 1 [.int .i64 a,.int .i64 b] Ls Ls (Dh (w.alloc (O33 a b)) _ _ _ Hd) (by simp[Value.oneCell']) Pf Ck Fr ?_;intro v' w9 hown2 hgrow hat;obtain⟨va',vc',rfl⟩:=Bh hown2;obtain⟨e1,e2,e3,h9⟩:=Ba HP _ _ _ ((QN _).drew) hown2 hgrow hat;have e4:=hgrow.cell (a0 _) hbx;have e5:=hgrow.cell (a1 _) hbx;have s0:=(Ul w9 ⟨g,rl*4+3,none⟩ (.slice va' (n+1) vc')).cell e4 hbg;have s1:=(Ul w9 ⟨g,rl*4+3,none⟩ (.slice va' (n+1) vc')).cell e5 hbg;obtain⟨d7,d1,d0,d3,dm⟩:=Ba HS _ _ h9;have HA:=Bc h9;clear hgrow hown2 hat h9;refine hK.out _ _ ⟨e1,e4,e5⟩ (fun hHeld=>?_);clear hK K
  try simp only[QX]
  refine tq 16 (.pointer (some ⟨g,rl*4,none⟩)) hHeld ?_;refine tq 17 (.pointer (some ⟨g,rl*4+3,none⟩)) hHeld ?_;refine tr 18 fun K hK=>?_;go_simp;refine hK.out _ _ ⟨d7,s0,s1⟩ (fun hHeld=>?_);clear hK K
  try simp only[QX]
  refine Bsg Lt ?_ _;clear hHeld s0 s1 e1 e2 e3 e4 e5 a7 a0 a1 a3 c7 g3 v0 v1 hrow HP HS hC h1 hbx hbg;generalize w9.setCell ⟨g,rl*4+3,none⟩ (.slice va' (n+1) vc')=w8 at *;go_wp2;go_quiet (fail);go_wp2;go_end0;exact⟨rfl,_,(Ba HA).drewN _⟩
def TyR.stays{w s:TW}{l:TX}{q:TP}(h:TyR w l q)(i:∀(j:Nat) (b:Array Value),w.heap[j]?=some (Obj.cells b 31 (0,0))->s.heap[j]?=w.heap[j]?):TyR s l q:=by
 rcases h with h|⟨g,o,c,b,m,f,p,t,z⟩
 ·exact .inl h
 have e:=i g b f;exact .inr ⟨g,o,c,b,m,e.trans f,p,t,fun j x A=>by rw[Brr (a:=⟨g,o+j,none⟩) e];exact z j x A⟩
def Bp9{w:TW}{u b t n g c:Nat}{e:TV}(h:w.ownsRow u b t (.s (.p g) n c) n e):∃i,w.heap[g]?=some (.cells i b (0,0)):=by
 obtain⟨_,⟨f,_⟩|⟨l,m,i,f,_,j,_⟩⟩:=h
 ·simp at f
 simp only[Value.slice.injEq,Option.some.injEq,Addr.mk.injEq,Br8]at f;obtain⟨rfl,_⟩:=f;exact⟨i,j⟩
def Al{w:TW}{p:Array Oper}{q:List Oper}{o:Oper}{a:Act}{Q:Exit->Act->TW->Prop}(t:o.guard=none)(s x:Operand) (v:o.op=.call { callee:=.builtin .append,args:=#[s,x],argTypes:=#[116,116] })(z:a.eval s=.s none 0 0)(l:TP)(g i c:Nat)(A:a.eval x=.s (some ⟨g,i,none⟩) l.length c) (B:∀j u,(Bp l)[j]?=some u->w.C g (i+j) u)(N:l.length<=100000) (h:∀f vc b,b.ownsRow w.heap.size 240 2 (.s f l.length vc) l.length (Bp l)->Bl w b->wpList prog p Q q (a.put o.dst (.s f l.length vc)) b):wpList prog p Q (o::q) a w:=by
 obtain⟨D,F,G,I,J⟩:=Bsa Tryz.infoVal;refine Br3 w t s x _ v w.heap.size 240 D _ 2 16 Bu5 F G I J rfl Ck _ 0 [] z (Brw _ _ _ _) ⟨g,i,none⟩ l.length c (Bp l) A (Jm l) ?_ (Sg l) Pf Ck (Bru _) ?_
 ·intro j u K;rw[Bvc];exact B j u K
 intro O b m e _;rw[Brz,Btz]at m;obtain⟨f,vc,rfl⟩:=Bh m;exact h f vc b m ⟨e.os,e.tape,e.output,e.size,fun j L=>e.block j L (by simp[Value.ownBlock])⟩
def Brg{k:Cz}{M:Br}{X:List Rw}{w:TW}{o:Bz}{lv:TX}{g:TA}{u:Nat}{r:List (Bz×Value×Value)}{q a:TP}{b:Nat}(h:Bm k M X w)(f:M.os=(o,lv,.s g o.st.length u)::r)(l:o.st=q++a)(t:M.oa=some ⟨b,0,none⟩):Bm k (M.put ((⟨o.m,o.p,o.lo,q⟩,lv,.s g q.length u)::r)) X (w.setCell (.a b (r.length*4+3)) (.s g q.length u))/\(w.setCell (.a b (r.length*4+3)) (.s g q.length u)).C k.B 7 (.s (.p b) (r.length+1) M.oc) /\ ∀(j:Nat) (v:Array Value),w.heap[j]?=some (Obj.cells v 31 (0,0))->(w.setCell (.a b (r.length*4+3)) (.s g q.length u)).heap[j]?=w.heap[j]?:=by
 obtain⟨G,I,J,K,L,N,O,Q,V,Y,Z,tc,xa,xc⟩:=M;simp only at f t;subst f t;have A:q.length<=o.st.length:=by rw[l];simp
 have D:=Own.cut (i:=5) (n':=q.length) h Ls A;have c:=Own.cellE (i:=1) D Ls (Tv (o,lv,.s g o.st.length u) (⟨o.m,o.p,o.lo,q⟩,lv,.s g q.length u) r 3 (.s g q.length u) rfl);have e:(Bp o.st).take (q.length*2)=Bp q:=by rw[<- Ue,l];simp
 rw[e]at c;refine⟨c,Own.see (i:=0) (j:=7) c Ls Ls,fun j v F=>?_⟩;obtain⟨c2,z⟩:=Bp9 (Bm.orow h);refine Brk _ _ _ _ (fun e=>?_);simp only at e;rw[<- e,F]at z;simp at z
theorem Ps(k:Cz)(M:Br)(X:List Rw)(o:Bz)(lv sv:Value)(r:List (Bz×Value×Value))(s a:List (Int×Int))(w:World)(h:Bm k M X w)(F:M.os=(o,lv,sv)::r)(J:o.st=s++a)(hr:r.length<=1000)(hs:o.st.length<=1000):Calls prog 144 #[.pointer (some ⟨k.B,0,none⟩),.int .i64 (a.length:Int)] w fun e C=>∃L vc a9,e=.returned (.slice L a.length vc)/\Bm k (M.put ((⟨o.m,o.p,o.lo,s⟩,lv,a9)::r)) (Da (.slice L a.length vc) a::X) C/\∀v l,TyR w v l->TyR C v l:=by
 obtain⟨sa,D,b0⟩:∃a c,sv=.slice a o.st.length c:=Bh (h.srow F);subst b0;obtain⟨g,hg,N,a7,a2⟩:=h.last F;have O:w.cell? ⟨k.B,7,none⟩=some (.slice (some ⟨g,0,none⟩) (r.length+1) M.oc):=by
  rw[<- hg,show r.length+1=M.os.length by rw[F];rfl];exact h.cell Ls
 have g3:w.cell? ⟨g,r.length*4+3,none⟩=some (.slice sa o.st.length D):=a7 3 _ rfl;have a3:=h.ltB;have b4:IntKind.i64.wrap (((r.length+1:Nat):Int)-1)=(r.length:Int):=by rw[show ((r.length+1:Nat):Int)-1=(r.length:Int) by omega];exact Cx _ Ck Ck
 have a1:o.st.length=s.length+a.length:=by rw[J];simp
 have b5:IntKind.i64.wrap ((o.st.length:Int)-(a.length:Int))=(s.length:Int):=by rw[a1,show ((s.length+a.length:Nat):Int)-(a.length:Int)=(s.length:Int) by omega];exact Cx _ Ck Ck
 have a0:w.ownsRow k.w0.heap.size 240 2 (.slice sa o.st.length D) o.st.length (Bp o.st):=h.srow F;have Q:=Bc (fun (Y:List Rw) (C:World) (h':Bm k M Y C)=>Brg h' F J hg);have V:=Bc (fun (v:Value) (C:World) (hB:Below w.heap.size w C) (ho:C.ownsRow w.heap.size 240 2 v a.length (Bp a))=>Own.add_new (r:=Da v a) h hB ho);clear a7;generalize a4:r.length=f at *;generalize hn:o.st.length=n at *;generalize Z:a.length=m at *;generalize hq:s.length=q at *;have ri:(f:Int)<(f:Int)+1:=Ck;have q0:(q:Int)<=(n:Int):=Ck;have q1:¬((q:Int)<0):=Ck;rcases a0.2 with ⟨hv,hz⟩|⟨gs,b6,b8,hv,_,b9,b1,_,_,_⟩
 ·simp only[Value.slice.injEq]at hv;obtain⟨rfl,rfl,rfl⟩:=hv;obtain rfl:q=0:=Ck;obtain rfl:m=0:=Ck;obtain rfl:=Bso Z;clear a0 F h J a1 Z hn hq a4;go_in;go_wp2_with fail;have i:=Brm w.heap.size w;have G:Bm k M (Da (.slice none 0 0) []::X) w:=Own.mid ((Ba V) _ _ i (Brw _ _ _ _));obtain⟨z,b7,A⟩:=Ba Q _ _ G;have I:=(i.cell (p:=⟨k.B,7,none⟩) a3).trans O;have d3:=(i.cell (p:=⟨g,f*4+3,none⟩) N).trans g3;have f3:=(i.frozen (p:=⟨g,f*4+3,none⟩) N).trans (a2 _);have HF:=Bc (Bto z (Bto i A));clear G z A i O g3 Q V;refine Br4 (S:=fun C=>C.cell? ⟨k.B,7,none⟩=some (.slice (some ⟨g,0,none⟩) (f+1) M.oc)) Lt I (fun b=>?_);refine tq 0 (.pointer (some ⟨k.B,0,none⟩)) b ?_;refine tq 1 (.pointer (some ⟨k.B,0,none⟩)) b ?_;refine tq 2 (.pointer (some ⟨k.B,7,none⟩)) b ?_;refine tq 3 (.slice (some ⟨g,0,none⟩) (f+1) M.oc) b ?_;refine tq 4 (.int .i64 (f:Int)) b ?_;refine tq 5 (.pointer (some ⟨k.B,0,none⟩)) b ?_;refine tq 6 (.pointer (some ⟨k.B,0,none⟩)) b ?_;refine tq 7 (.pointer (some ⟨k.B,7,none⟩)) b ?_;refine tq 8 (.slice (some ⟨g,0,none⟩) (f+1) M.oc) b ?_;refine tq 9 (.int .i64 (f:Int)) b ?_;refine tq 10 (.pointer (some ⟨g,f*4,none⟩)) b ?_;refine tq 11 (.pointer (some ⟨g,f*4+3,none⟩)) b ?_;refine tq 13 (.int .i64 0) b ?_;refine tr 12 fun K t=>?_;go_simp;refine t.out _ _ I (fun b=>?_);clear t K
  try simp only[QX]
  refine tq 14 (.slice none 0 0) b ?_;refine tq 15 (.pointer (some ⟨g,f*4,none⟩)) b ?_;refine tq 16 (.pointer (some ⟨g,f*4+3,none⟩)) b ?_;refine tr 17 fun K t=>?_;go_simp;refine t.out _ _ b7 (fun b=>?_);clear t K
  try simp only[QX]
  refine Bsg Lt ?_ _;clear b;go_wp2;go_ret;obtain⟨z,i,A⟩:=Ba HF;exact⟨_,_,_,rfl,z.drew,fun v l h=>(h.below i).stays A⟩
 simp only[Value.slice.injEq,Buw]at hv;obtain⟨rfl,rfl⟩:=hv;have n1:(n:Int)<=(D:Int):=Ck;have a5:=fun j u hu=>World.ownsRow.cells a0 rfl j u hu;have a8:Hid (∀j u,(Bp a)[j]?=some u->w.cell? ⟨gs,q*2+j,none⟩=some u):=fun j u hu=>by
  have:=a5 (q*2+j) u (by rw[J,Ib,Br0 (by rw[Jm,hq];omega),Jm,hq,Btu];exact hu);rw[Bvc,Brz]at this;exact this
 by_cases b2:D=q
 ·subst b2;obtain rfl:m=0:=Ck;obtain rfl:D=n:=Ck;obtain rfl:=Bso Z;clear a0 a5 a8 F h J a1 Z hn hq a4 b1;go_in;go_wp2_with (at_builtin;refine Al rfl _ _ rfl rfl [] gs 0 0 Ls (fun j u h=>by simp[Bp]at h) (Bsb _) ?_)
  intro L vc w1 a6 i;have G:Bm k M (Da (.slice L 0 vc) []::X) w1:=Own.mid ((Ba V) _ _ i a6);obtain⟨z,b7,A⟩:=Ba Q _ _ G;have I:=(i.cell (p:=⟨k.B,7,none⟩) a3).trans O;have d3:=(i.cell (p:=⟨g,f*4+3,none⟩) N).trans g3;have f3:=(i.frozen (p:=⟨g,f*4+3,none⟩) N).trans (a2 _);have HF:=Bc (Bto z (Bto i A));clear G z A i O g3 Q V
  go_upto_region 8 with fail
  refine Br4 (S:=fun C=>C.cell? ⟨k.B,7,none⟩=some (.slice (some ⟨g,0,none⟩) (f+1) M.oc)) Lt I (fun b=>?_);refine tq 0 (.pointer (some ⟨k.B,0,none⟩)) b ?_;refine tq 1 (.pointer (some ⟨k.B,0,none⟩)) b ?_;refine tq 2 (.pointer (some ⟨k.B,7,none⟩)) b ?_;refine tq 3 (.slice (some ⟨g,0,none⟩) (f+1) M.oc) b ?_;refine tq 4 (.int .i64 (f:Int)) b ?_;refine tq 5 (.pointer (some ⟨k.B,0,none⟩)) b ?_;refine tq 6 (.pointer (some ⟨k.B,0,none⟩)) b ?_;refine tq 7 (.pointer (some ⟨k.B,7,none⟩)) b ?_;refine tq 8 (.slice (some ⟨g,0,none⟩) (f+1) M.oc) b ?_;refine tq 9 (.int .i64 (f:Int)) b ?_;refine tq 10 (.pointer (some ⟨g,f*4,none⟩)) b ?_;refine tq 11 (.pointer (some ⟨g,f*4+3,none⟩)) b ?_;refine tq 13 (.int .i64 (D:Int)) b ?_;refine tr 12 fun K t=>?_;go_simp;refine t.out _ _ I (fun b=>?_);clear t K
  try simp only[QX]
  refine tq 14 (.slice (some ⟨gs,0,none⟩) D D) b ?_;refine tq 15 (.pointer (some ⟨g,f*4,none⟩)) b ?_;refine tq 16 (.pointer (some ⟨g,f*4+3,none⟩)) b ?_;refine tr 17 fun K t=>?_;go_simp;refine t.out _ _ b7 (fun b=>?_);clear t K
  try simp only[QX]
  refine Bsg Lt ?_ _;clear b;go_wp2;go_ret;obtain⟨z,i,A⟩:=Ba HF;exact⟨_,_,_,rfl,z.drew,fun v l h=>(h.below i).stays A⟩
 have b3:Hid (a.length=n-q):=show a.length=n-q by omega
 have HM:=Bc (fun (_:Unit)=>Z);have m5:m<=100000:=Ck;have q2:¬D<q:=Ck;clear a0 a5 F h J a1 Z hn hq a4;go_in;go_wp2_with (at_builtin;refine Al rfl _ _ rfl rfl a gs (q*2) (D-q) (by rw[Ba b3];rfl) (Ba a8) (by rw[Ba HM ()];exact m5) ?_)
 rw[Ba HM ()];intro L vc w1 a6 i;have G:Bm k M (Da (.slice L m vc) a::X) w1:=Own.mid ((Ba V) _ _ i a6);obtain⟨z,b7,A⟩:=Ba Q _ _ G;have I:=(i.cell (p:=⟨k.B,7,none⟩) a3).trans O;have d3:=(i.cell (p:=⟨g,f*4+3,none⟩) N).trans g3;have f3:=(i.frozen (p:=⟨g,f*4+3,none⟩) N).trans (a2 _);have HF:=Bc (Bto z (Bto i A));clear G z A i O g3 Q V
 go_upto_region 8 with fail
 refine Br4 (S:=fun C=>C.cell? ⟨k.B,7,none⟩=some (.slice (some ⟨g,0,none⟩) (f+1) M.oc)) Lt I (fun b=>?_);refine tq 0 (.pointer (some ⟨k.B,0,none⟩)) b ?_;refine tq 1 (.pointer (some ⟨k.B,0,none⟩)) b ?_;refine tq 2 (.pointer (some ⟨k.B,7,none⟩)) b ?_;refine tq 3 (.slice (some ⟨g,0,none⟩) (f+1) M.oc) b ?_;refine tq 4 (.int .i64 (f:Int)) b ?_;refine tq 5 (.pointer (some ⟨k.B,0,none⟩)) b ?_;refine tq 6 (.pointer (some ⟨k.B,0,none⟩)) b ?_;refine tq 7 (.pointer (some ⟨k.B,7,none⟩)) b ?_;refine tq 8 (.slice (some ⟨g,0,none⟩) (f+1) M.oc) b ?_;refine tq 9 (.int .i64 (f:Int)) b ?_;refine tq 10 (.pointer (some ⟨g,f*4,none⟩)) b ?_;refine tq 11 (.pointer (some ⟨g,f*4+3,none⟩)) b ?_;refine tq 13 (.int .i64 (q:Int)) b ?_;refine tr 12 fun K t=>?_;go_simp;refine t.out _ _ I (fun b=>?_);clear t K
 try simp only[QX]
 refine tq 14 (.slice (some ⟨gs,0,none⟩) q D) b ?_;refine tq 15 (.pointer (some ⟨g,f*4,none⟩)) b ?_;refine tq 16 (.pointer (some ⟨g,f*4+3,none⟩)) b ?_;refine tr 17 fun K t=>?_;go_simp;refine t.out _ _ b7 (fun b=>?_);clear t K
 try simp only[QX]
 refine Bsg Lt ?_ _;clear b;go_wp2;go_ret;obtain⟨z,i,A⟩:=Ba HF;exact⟨_,_,_,rfl,z.drew,fun v l h=>(h.below i).stays A⟩
structure Cs where
 cs:List Rd.Cls
 ms:List Rd.Mth
 ins:List Int
 heap:Int
 depth:Int
abbrev Cs.T(E:Cs):List Int:=Tr.tree E.cs
def Cs.meth(E:Cs)(n:Nat):Rd.Mth:=E.ms.getD n Ef
def Cs.all(E:Cs)(c:Int):List (Int × Int):=Rf.all E.T (Rf.given++E.cs) c.toNat
def Cs.fld(E:Cs)(n:Int):Rf.Fld:=(Cp E.cs).getD n.toNat ⟨0,0,(0,0)⟩
def Xg:Dj:=⟨0,false,[]⟩
def Cc (ts:List Dj)(n:Int):Dj:=ts.getD n.toNat Xg
def Jf (T:TI)(ts:List Dj)(v t:Int × Int):Bool :=
 if t.1=1 then v.1==1 else if v.1=2 then (if v.2=0 then true else (Cc ts v.2).set&&Tr.rbel T (Cc ts v.2).cl t.2) else false
def Hh (T:TI)(ts:List Dj):TP->TP->Bool
 | v::a,t::b=>Jf T ts v t&&Hh T ts a b
 | [],[]=>true
 | _,_=>false
abbrev Ce(a:List (Int × Int)):Int × Int:=a.getD 0 (0,0)
abbrev Hl(a:List (Int × Int)):Int × Int:=a.getD 1 (0,0)
def Di (E:Cs)(d:Cv)(op n:Int)(a:TP):Int :=
 if op=10 then (if (Hl a).2=0 then 1 else 0)
 else if op=17\/op=18 then (if (Ce a).2=0 then 2 else 0)
 else if op=21 then (if (Ce a).2=0 then 2 else if E.depth<=(d.os.length:Int) then 5 else 0)
 else if op=23 then (if (Ce a).2=0 then 2 else (Ce a).2)
 else if op=15 then (if E.heap<=(d.made:Int) then 4 else 0)
 else if op=19 then (if Jf E.T d.ts (Ce a) (3,n)=true then 0 else 3)
 else if op=20 then (if E.depth<=(d.os.length:Int) then 5 else 0)
 else 0
def Gf (T:TI)(cl:Int)(p:Nat):List Rd.Hnd->Option Int
 | []=>none
 | h::r=>if h.frm<=(p:Int)/\(p:Int)<h.til/\Tr.rbel T cl h.cl=true then some h.target else Gf T cl p r
def Fj (E:Cs)(n cl:Int)(d:Cv):List Bz->Cv
 | []=>⟨[],d.ts,d.made,d.read,d.out,d.steps,2,cl⟩
 | o::r=>match Gf E.T cl o.p (E.meth o.m).handlers with
  | some t=>⟨⟨o.m,t.toNat,o.lo,[(2,n)]⟩::r,d.ts,d.made,d.read,d.out,d.steps,d.status,d.value⟩
  | none=>Fj E n cl d r
def Jb (v:Int):Int:=if 2147483647<v.tmod 4294967296 then v.tmod 4294967296-4294967296 else if v.tmod 4294967296 < -2147483648 then v.tmod 4294967296+4294967296 else v.tmod 4294967296
def Ip (op a b:Int):Int :=
 if op=7 then Jb (a+b) else if op=8 then Jb (a-b) else if op=9 then Jb (a*b) else if b=0 then 0 else Jb (a.tdiv b)
def Hg (E:Cs)(n:Nat)(a:TP):Bz:=⟨n,0,a++List.replicate ((E.meth n).locals.toNat-a.length) (0,0),[]⟩
def En (E:Cs)(c name:Int):List Rd.Mth->Nat->Nat->Nat
 | [],_,b=>b
 | m::r,i,b=>if m.cl≠255/\m.name=name/\Tr.rbel E.T c m.cl=true/\(E.meth b).cl<m.cl then En E c name r (i+1) i else En E c name r (i+1) b
def N1 (E:Cs)(d:Cv)(n o:Int):Nat:=En E (Cc d.ts o).cl (E.meth n.toNat).name E.ms 0 n.toNat
def Cg (E:Cs)(o:Bz):Nat:=o.p+Cd.wd ((E.meth o.m).code.getD o.p 0)
def Hq (op:Int)(a:TP):Bool:=op==11 || (op==12&&(Ce a).2==0) || (op==14&&(Ce a).2==0) || (op==13&&decide ((Ce a).2<(Hl a).2))
def Cv.top(d:Cv)(o:Bz)(r:List Bz):Cv:=⟨o::r,d.ts,d.made,d.read,d.out,d.steps,d.status,d.value⟩
def Cv.with(d:Cv)(ts:List Dj)(o:Bz)(r:List Bz):Cv:=⟨o::r,ts,d.made,d.read,d.out,d.steps,d.status,d.value⟩
def Kz (E:Cs)(d:Cv)(op n:Int)(a:TP):Int × Int :=
 if op=0 then (1,if 127<n then n-256 else n) else if op=1 then (2,0) else if op=19 then Ce a
 else if op=17 then (Cc d.ts (Ce a).2).vals.getD (E.fld n).slot.toNat (0,0)
 else (1,Ip op (Ce a).2 (Hl a).2)
def Hz (n:Nat)(v:Int × Int):Prop:=v=(0,0)\/(v.1=1/\-2147483648<=v.2/\v.2<=2147483647)\/(v.1=2/\0<=v.2/\v.2<(n:Int))
section
variable (E:Cs) (d:Cv) (o:Bz) (r:List Bz) (op n:Int) (a:List (Int × Int))
abbrev Bq.r0(P:Cv->Prop):Prop:=op=20->0<=n->n.toNat<E.ms.length->(a.length:Int)<=(E.meth n.toNat).locals->P (d.top (Hg E n.toNat a) (o::r))
abbrev Bq.r1(P:Cv->Prop):Prop:=op=21->0<=n->n.toNat<E.ms.length->0<a.length->0<=(Ce a).2->(Ce a).2<(d.ts.length:Int)->(a.length:Int)<=(E.meth (N1 E d n (Ce a).2)).locals->P (d.top (Hg E (N1 E d n (Ce a).2) a) (o::r))
abbrev Bq.r2(P:Cv->Prop):Prop:=op=22->r=[]->((E.meth o.m).result.1=1->0<a.length)->P ⟨[],d.ts,d.made,d.read,d.out,d.steps,0,if (E.meth o.m).result.1=1 then (Ce a).2 else 0⟩
abbrev Bq.r3(P:Cv->Prop):Prop:=∀(q:Bz) (r':List Bz),op=22->r=q::r'->a.length<=1->q.p<(E.meth q.m).code.length->((q.st.length+a.length:Nat):Int)<=(E.meth q.m).stack->P (d.top ⟨q.m,Cg E q,q.lo,q.st++a⟩ r')
abbrev Bq.r4(P:Cv->Prop):Prop:=11<=op->op<=14->(op=13->2<=a.length)->(op≠11->1<=a.length)->0<=n->Hq op a=true->P (d.top ⟨o.m,n.toNat,o.lo,o.st⟩ r)
abbrev Bq.r5(P:Cv->Prop):Prop:=12<=op->op<=14->(op=13->2<=a.length)->1<=a.length->Hq op a=false->P (d.top ⟨o.m,Cg E o,o.lo,o.st⟩ r)
abbrev Bq.r6(P:Cv->Prop):Prop:=op=2->0<=n->n<(o.lo.length:Int)->(o.lo.getD n.toNat (0,0)).1≠0->(o.st.length:Int)<(E.meth o.m).stack->P (d.top ⟨o.m,Cg E o,o.lo,o.st++[o.lo.getD n.toNat (0,0)]⟩ r)
abbrev Bq.r7(P:Cv->Prop):Prop:=∀(s:List (Int × Int)) (v:Int × Int),op=3->0<=n->n<(o.lo.length:Int)->o.st=s++[v]->P (d.top ⟨o.m,Cg E o,o.lo.set n.toNat v,s⟩ r)
abbrev Bq.r8(P:Cv->Prop):Prop:=∀(s:List (Int × Int)) (v:Int × Int),op=4->o.st=s++[v]->P (d.top ⟨o.m,Cg E o,o.lo,s⟩ r)
abbrev Bq.r9(P:Cv->Prop):Prop:=∀(s:List (Int × Int)) (v:Int × Int),op=5->o.st=s++[v]->((s.length+2:Nat):Int)<=(E.meth o.m).stack->P (d.top ⟨o.m,Cg E o,o.lo,s++[v,v]⟩ r)
abbrev Bq.r10(P:Cv->Prop):Prop:=∀(s:List (Int × Int)) (u v:Int × Int),op=6->o.st=s++[u,v]->((s.length+2:Nat):Int)<=(E.meth o.m).stack->P (d.top ⟨o.m,Cg E o,o.lo,s++[v,u]⟩ r)
abbrev Bq.r11(P:Cv->Prop):Prop:=op=15->(o.st.length:Int)<(E.meth o.m).stack->P ⟨⟨o.m,Cg E o,o.lo,o.st++[(2,(d.ts.length:Int))]⟩::r,d.ts++[⟨n,false,[]⟩],d.made+1,d.read,d.out,d.steps,d.status,d.value⟩
abbrev Bq.r12(P:Cv->Prop):Prop:=∀(s vs:List (Int × Int)) (k:Nat) (vals:List (Int × Int)),op=16->0<=n->n.toNat<E.T.length->o.st=s++(2,(k:Int))::vs->Hh E.T d.ts vs (E.all n)=true->(∀v∈vs,Hz d.ts.length v)->0<k->d.ts[k]?=some ⟨n,false,vals⟩->P (d.with (d.ts.set k ⟨n,true,vs⟩) ⟨o.m,Cg E o,o.lo,s⟩ r)
abbrev Bq.r13(P:Cv->Prop):Prop:=(op=0\/op=1\/op=7\/op=8\/op=9\/op=10\/op=17\/op=19)->(op=17->0<=n/\n.toNat<(Cp E.cs).length/\0<=(E.fld n).slot/\0<=(Ce a).2/\(Ce a).2<(d.ts.length:Int)/\(E.fld n).slot<((Cc d.ts (Ce a).2).vals.length:Int))->(op=17\/op=19->1<=a.length)->(7<=op->op<=10->2<=a.length)->(o.st.length:Int)<(E.meth o.m).stack->P (d.top ⟨o.m,Cg E o,o.lo,o.st++[Kz E d op n a]⟩ r)
abbrev Bq.r14(P:Cv->Prop):Prop:=op=24->d.read<E.ins.length->(o.st.length:Int)<(E.meth o.m).stack->P ⟨⟨o.m,Cg E o,o.lo,o.st++[(1,E.ins.getD d.read 0)]⟩::r,d.ts,d.made,d.read+1,d.out,d.steps,d.status,d.value⟩
abbrev Bq.r15(P:Cv->Prop):Prop:=op=24->E.ins.length<=d.read->(o.st.length:Int)<(E.meth o.m).stack->P (d.top ⟨o.m,Cg E o,o.lo,o.st++[(1,0)]⟩ r)
abbrev Bq.r16(P:Cv->Prop):Prop:=op=25->1<=a.length->P ⟨⟨o.m,Cg E o,o.lo,o.st⟩::r,d.ts,d.made,d.read,d.out++[(Ce a).2],d.steps,d.status,d.value⟩
abbrev Bq.r17(P:Cv->Prop):Prop:=op=18->2<=a.length->0<=n->n.toNat<(Cp E.cs).length->0<=(E.fld n).slot->0<=(Ce a).2->(Ce a).2<(d.ts.length:Int)->(E.fld n).slot<((Cc d.ts (Ce a).2).vals.length:Int)->P (d.with (d.ts.set (Ce a).2.toNat ⟨(Cc d.ts (Ce a).2).cl,(Cc d.ts (Ce a).2).set,(Cc d.ts (Ce a).2).vals.set (E.fld n).slot.toNat (Hl a)⟩) ⟨o.m,Cg E o,o.lo,o.st⟩ r)
def Bq (i0:Cv):Prop:=∀(P:Cv->Prop),Bq.r0 E d o r op n a P->Bq.r1 E d o r op n a P->Bq.r2 E d o r op a P->Bq.r3 E d r op a P->Bq.r4 d o r op n a P->Bq.r5 E d o r op a P->Bq.r6 E d o r op n P->Bq.r7 E d o r op n P->Bq.r8 E d o r op P->Bq.r9 E d o r op P->Bq.r10 E d o r op P->Bq.r11 E d o r op n P->Bq.r12 E d o r op n P->Bq.r13 E d o r op n a P->Bq.r14 E d o r op P->Bq.r15 E d o r op P->Bq.r16 E d o r op a P->Bq.r17 E d o r op n a P->P i0
end
section
variable {E:Cs}{d:Cv}{o:Bz}{r:List Bz}{op n:Int}{a:List (Int × Int)}
def Bq.call:Bq.r0 E d o r op n a (Bq E d o r op n a):=fun b c e f P g h i j l m p q s t v z A B C D F G=>g b c e f
def Bq.send:Bq.r1 E d o r op n a (Bq E d o r op n a):=fun b c e f g h i P l j m p q s t v z A B C D F G I J K=>j b c e f g h i
def Bq.ret0:Bq.r2 E d o r op a (Bq E d o r op n a):=fun b c e P g h f i j l m p q s t v z A B C D F=>f b c e
def Bq.ret:Bq.r3 E d r op a (Bq E d o r op n a):=fun q b c e f g h P j l m i p s t v z A B C D F G I J K=>i q b c e f g h
def Bq.jump:Bq.r4 d o r op n a (Bq E d o r op n a):=fun b c e f g h P j l m p i q s t v z A B C D F G I J=>i b c e f g h
def Bq.stay:Bq.r5 E d o r op a (Bq E d o r op n a):=fun b c e f g P i j l m p h q s t v z A B C D F G I=>h b c e f g
def Bq.load:Bq.r6 E d o r op n (Bq E d o r op n a):=fun b c e f g P i j l m p q h s t v z A B C D F G I=>h b c e f g
def Bq.store:Bq.r7 E d o r op n (Bq E d o r op n a):=fun s v b c e f P h i j l m p q g t z A B C D F G I J=>g s v b c e f
def Bq.pop:Bq.r8 E d o r op (Bq E d o r op n a):=fun s v b c P f g h i j l m p e q t z A B C D F G=>e s v b c
def Bq.dup:Bq.r9 E d o r op (Bq E d o r op n a):=fun s v b c e P g h i j l m p q t f z A B C D F G I=>f s v b c e
def Bq.swap:Bq.r10 E d o r op (Bq E d o r op n a):=fun s u v b c e P g h i j l m p q t z f A B C D F G I=>f s u v b c e
def Bq.new:Bq.r11 E d o r op n (Bq E d o r op n a):=fun b c P f g h i j l m p q s t e v z A B C D=>e b c
def Bq.init:Bq.r12 E d o r op n (Bq E d o r op n a):=fun s b k c e f g h i j l m P q t v z A B C D F G I J p K L N O Q=>p s b k c e f g h i j l m
def Bq.push:Bq.r13 E d o r op n a (Bq E d o r op n a):=fun b c e f g P i j l m p q s t v z A B C h D F G I=>h b c e f g
def Bq.read:Bq.r14 E d o r op (Bq E d o r op n a):=fun b c e P g h i j l m p q s t v z A B f C D F=>f b c e
def Bq.none:Bq.r15 E d o r op (Bq E d o r op n a):=fun b c e P g h i j l m p q s t v z A B C f D F=>f b c e
def Bq.out:Bq.r16 E d o r op a (Bq E d o r op n a):=fun b c P f g h i j l m p q s t v z A B C e D=>e b c
def Bq.put:Bq.r17 E d o r op n a (Bq E d o r op n a):=fun b c e f g h i j P m p q s t v z A B C D F G I J K L l=>l b c e f g h i j
def Bq.el{M:(i0:Cv)->Bq E d o r op n a i0->Prop}(call:op=20->0<=n->n.toNat<E.ms.length->(a.length:Int)<=(E.meth n.toNat).locals->∀h,M (d.top (Hg E n.toNat a) (o::r)) h)(send:op=21->0<=n->n.toNat<E.ms.length->0<a.length->0<=(Ce a).2->(Ce a).2<(d.ts.length:Int)->(a.length:Int)<=(E.meth (N1 E d n (Ce a).2)).locals->∀h,M (d.top (Hg E (N1 E d n (Ce a).2) a) (o::r)) h)(ret0:op=22->r=[]->((E.meth o.m).result.1=1->0<a.length)->∀h,M ⟨[],d.ts,d.made,d.read,d.out,d.steps,0,if (E.meth o.m).result.1=1 then (Ce a).2 else 0⟩ h)(ret:∀(q:Bz) (r':List Bz),op=22->r=q::r'->a.length<=1->q.p<(E.meth q.m).code.length->((q.st.length+a.length:Nat):Int)<=(E.meth q.m).stack->∀h,M (d.top ⟨q.m,Cg E q,q.lo,q.st++a⟩ r') h)(jump:11<=op->op<=14->(op=13->2<=a.length)->(op≠11->1<=a.length)->0<=n->Hq op a=true->∀h,M (d.top ⟨o.m,n.toNat,o.lo,o.st⟩ r) h)(stay:12<=op->op<=14->(op=13->2<=a.length)->1<=a.length->Hq op a=false->∀h,M (d.top ⟨o.m,Cg E o,o.lo,o.st⟩ r) h)(load:op=2->0<=n->n<(o.lo.length:Int)->(o.lo.getD n.toNat (0,0)).1≠0->(o.st.length:Int)<(E.meth o.m).stack->∀h,M (d.top ⟨o.m,Cg E o,o.lo,o.st++[o.lo.getD n.toNat (0,0)]⟩ r) h)(store:∀(s:TP) (v:Int×Int),op=3->0<=n->n<(o.lo.length:Int)->o.st=s++[v]->∀h,M (d.top ⟨o.m,Cg E o,o.lo.set n.toNat v,s⟩ r) h)(pop:∀(s:TP) (v:Int×Int),op=4->o.st=s++[v]->∀h,M (d.top ⟨o.m,Cg E o,o.lo,s⟩ r) h)(dup:∀(s:TP) (v:Int×Int),op=5->o.st=s++[v]->((s.length+2:Nat):Int)<=(E.meth o.m).stack->∀h,M (d.top ⟨o.m,Cg E o,o.lo,s++[v,v]⟩ r) h)(swap:∀(s:TP) (u v:Int×Int),op=6->o.st=s++[u,v]->((s.length+2:Nat):Int)<=(E.meth o.m).stack->∀h,M (d.top ⟨o.m,Cg E o,o.lo,s++[v,u]⟩ r) h)(new:op=15->(o.st.length:Int)<(E.meth o.m).stack->∀h,M ⟨⟨o.m,Cg E o,o.lo,o.st++[(2,(d.ts.length:Int))]⟩::r,d.ts++[⟨n,false,[]⟩],d.made+1,d.read,d.out,d.steps,d.status,d.value⟩ h)(init:∀(s vs:TP) (k:Nat) (vals:TP),op=16->0<=n->n.toNat<E.T.length->o.st=s++(2,(k:Int))::vs->Hh E.T d.ts vs (E.all n)=true->(∀v∈vs,Hz d.ts.length v)->0<k->d.ts[k]?=some ⟨n,false,vals⟩->∀h,M (d.with (d.ts.set k ⟨n,true,vs⟩) ⟨o.m,Cg E o,o.lo,s⟩ r) h)(push:(op=0\/op=1\/op=7\/op=8\/op=9\/op=10\/op=17\/op=19)->(op=17->0<=n/\n.toNat<(Cp E.cs).length/\0<=(E.fld n).slot/\0<=(Ce a).2/\(Ce a).2<(d.ts.length:Int)/\(E.fld n).slot<((Cc d.ts (Ce a).2).vals.length:Int))->(op=17\/op=19->1<=a.length)->(7<=op->op<=10->2<=a.length)->(o.st.length:Int)<(E.meth o.m).stack->∀h,M (d.top ⟨o.m,Cg E o,o.lo,o.st++[Kz E d op n a]⟩ r) h)(read:op=24->d.read<E.ins.length->(o.st.length:Int)<(E.meth o.m).stack->∀h,M ⟨⟨o.m,Cg E o,o.lo,o.st++[(1,E.ins.getD d.read 0)]⟩::r,d.ts,d.made,d.read+1,d.out,d.steps,d.status,d.value⟩ h)(none:op=24->E.ins.length<=d.read->(o.st.length:Int)<(E.meth o.m).stack->∀h,M (d.top ⟨o.m,Cg E o,o.lo,o.st++[(1,0)]⟩ r) h)(out:op=25->1<=a.length->∀h,M ⟨⟨o.m,Cg E o,o.lo,o.st⟩::r,d.ts,d.made,d.read,d.out++[(Ce a).2],d.steps,d.status,d.value⟩ h)(put:op=18->2<=a.length->0<=n->n.toNat<(Cp E.cs).length->0<=(E.fld n).slot->0<=(Ce a).2->(Ce a).2<(d.ts.length:Int)->(E.fld n).slot<((Cc d.ts (Ce a).2).vals.length:Int)->∀h,M (d.with (d.ts.set (Ce a).2.toNat ⟨(Cc d.ts (Ce a).2).cl,(Cc d.ts (Ce a).2).set,(Cc d.ts (Ce a).2).vals.set (E.fld n).slot.toNat (Hl a)⟩) ⟨o.m,Cg E o,o.lo,o.st⟩ r) h){i0:Cv}(h:Bq E d o r op n a i0):M i0 h:=h (fun i0=>∀h,M i0 h) call send ret0 ret jump stay load store pop dup swap new init push read none out put h
end
section
variable (E:Cs) (d:Cv)
abbrev Fp.r0(P:Cv->Prop):Prop:=∀(o:Bz) (r:List Bz) (s a:List (Int × Int)) (t:Nat),d.os=o::r->o.m<E.ms.length->o.p<(E.meth o.m).code.length->o.st=s++a->Hh E.T d.ts a (Co (Cp E.cs) E.ms (E.meth o.m).result ((E.meth o.m).code.getD o.p 0) (Cd.atI (E.meth o.m).code ((o.p:Int)+1)))=true->(∀v∈a,Hz d.ts.length v)->0<t->t<d.ts.length->Di E d ((E.meth o.m).code.getD o.p 0) (Cd.atI (E.meth o.m).code ((o.p:Int)+1)) a=(t:Int)->(∀q∈o::r,q.m<E.ms.length/\(Gf E.T (Cc d.ts t).cl q.p (E.meth q.m).handlers≠none->1<=(E.meth q.m).stack))->P (Fj E (t:Int) (Cc d.ts t).cl ⟨d.os,d.ts,d.made,d.read,d.out,d.steps+1,d.status,d.value⟩ (⟨o.m,o.p,o.lo,s⟩::r))
abbrev Fp.r1(P:Cv->Prop):Prop:=∀(o:Bz) (r:List Bz) (s a:List (Int × Int)) (d':Cv),d.os=o::r->o.m<E.ms.length->o.p<(E.meth o.m).code.length->o.st=s++a->Hh E.T d.ts a (Co (Cp E.cs) E.ms (E.meth o.m).result ((E.meth o.m).code.getD o.p 0) (Cd.atI (E.meth o.m).code ((o.p:Int)+1)))=true->(∀v∈a,Hz d.ts.length v)->Di E d ((E.meth o.m).code.getD o.p 0) (Cd.atI (E.meth o.m).code ((o.p:Int)+1)) a=0->Bq E ⟨⟨o.m,o.p,o.lo,s⟩::r,d.ts,d.made,d.read,d.out,d.steps+1,d.status,d.value⟩ ⟨o.m,o.p,o.lo,s⟩ r ((E.meth o.m).code.getD o.p 0) (Cd.atI (E.meth o.m).code ((o.p:Int)+1)) a d'->P d'
def Fp (i0:Cv):Prop:=∀(P:Cv->Prop),Fp.r0 E d P->Fp.r1 E d P->P i0
end
section
variable {E:Cs}{d:Cv}
def Fp.thrown:Fp.r0 E d (Fp E d):=fun o r s a t b c e f g h i j l m P p q=>p o r s a t b c e f g h i j l m
def Fp.does:Fp.r1 E d (Fp E d):=fun o r s a d' b c e f g h i j P m l=>l o r s a d' b c e f g h i j
def Fp.el{M:(i0:Cv)->Fp E d i0->Prop}(thrown:∀(o:Bz) (r:List Bz) (s a:TP) (t:Nat),d.os=o::r->o.m<E.ms.length->o.p<(E.meth o.m).code.length->o.st=s++a->Hh E.T d.ts a (Co (Cp E.cs) E.ms (E.meth o.m).result ((E.meth o.m).code.getD o.p 0) (Cd.atI (E.meth o.m).code ((o.p:Int)+1)))=true->(∀v∈a,Hz d.ts.length v)->0<t->t<d.ts.length->Di E d ((E.meth o.m).code.getD o.p 0) (Cd.atI (E.meth o.m).code ((o.p:Int)+1)) a=(t:Int)->(∀q∈o::r,q.m<E.ms.length/\(Gf E.T (Cc d.ts t).cl q.p (E.meth q.m).handlers≠none->1<=(E.meth q.m).stack))->∀h,M (Fj E (t:Int) (Cc d.ts t).cl ⟨d.os,d.ts,d.made,d.read,d.out,d.steps+1,d.status,d.value⟩ (⟨o.m,o.p,o.lo,s⟩::r)) h)(does:∀(o:Bz) (r:List Bz) (s a:TP) (d':Cv),d.os=o::r->o.m<E.ms.length->o.p<(E.meth o.m).code.length->o.st=s++a->Hh E.T d.ts a (Co (Cp E.cs) E.ms (E.meth o.m).result ((E.meth o.m).code.getD o.p 0) (Cd.atI (E.meth o.m).code ((o.p:Int)+1)))=true->(∀v∈a,Hz d.ts.length v)->Di E d ((E.meth o.m).code.getD o.p 0) (Cd.atI (E.meth o.m).code ((o.p:Int)+1)) a=0->Bq E ⟨⟨o.m,o.p,o.lo,s⟩::r,d.ts,d.made,d.read,d.out,d.steps+1,d.status,d.value⟩ ⟨o.m,o.p,o.lo,s⟩ r ((E.meth o.m).code.getD o.p 0) (Cd.atI (E.meth o.m).code ((o.p:Int)+1)) a d'->∀h,M d' h){i0:Cv}(h:Fp E d i0):M i0 h:=h (fun i0=>∀h,M i0 h) thrown does h
end
end Go.Proofs.YtpcgnjolfahacaaGreat
