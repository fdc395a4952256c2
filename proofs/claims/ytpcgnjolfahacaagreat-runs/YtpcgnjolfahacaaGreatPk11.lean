/- the proof's parts -/
import Derived.Test.YtpcgnjolfahacaaGreatPk10
set_option maxRecDepth 100000
set_option maxHeartbeats 40000000
set_option linter.unusedVariables false
set_option linter.unusedSimpArgs false
set_option linter.defProp false
namespace Go.Proofs.YtpcgnjolfahacaaGreat
open Go.RowKit Go.Proofs.Tryz
def TyR.stays{w s:TW}{l:TX}{q:TP}(h:TyR w l q)(i:∀(j:Nat) (b:Array Value),w.heap[j]?=some (Obj.cells b 31 (0,0))->s.heap[j]?=w.heap[j]?):TyR s l q:=by
 rcases h with h|⟨g,o,c,b,m,f,p,t,z⟩
 ·exact .inl h
 have e:=i g b f;exact .inr ⟨g,o,c,b,m,e.trans f,p,t,fun j x A=>by rw[Brr (a:=⟨g,o+j,none⟩) e];exact z j x A⟩
def Bp9{w:TW}{u b t n g c:Nat}{e:TV}(h:w.ownsRow u b t (.s (.p g) n c) n e):∃i,w.heap[g]?=some (.cells i b (0,0)):=by
 obtain⟨_,⟨f,_⟩|⟨l,m,i,f,_,j,_⟩⟩:=h
 ·simp at f
 simp only[Value.slice.injEq,Option.some.injEq,Addr.mk.injEq,Br8]at f;obtain⟨rfl,_⟩:=f;exact⟨i,j⟩
def Al{w:TW}{p:Array Oper}{q:List Oper}{o:Oper}{a:Act}{Q:Exit->Act->TW->Prop}(t:o.guard=none)(s x:Operand) (v:o.op=.call { callee:=.builtin .append,args:=#[s,x],argTypes:=#[116,116] })(z:a.eval s=.s none 0 0)(l:TP)(g i c:Nat)(A:a.eval x=.s (some ⟨g,i,none⟩) l.length c) (B:∀j u,(Bp l)[j]?=some u->w.C g (i+j) u)(N:l.length<=100000) (h:∀f vc b,b.ownsRow w.heap.size 240 2 (.s f l.length vc) l.length (Bp l)->Bl w b->wpList prog p Q q (a.put o.dst (.s f l.length vc)) b):wpList prog p Q (o::q) a w:=by
 obtain⟨D,F,G,I,J⟩:=Bsa Tryz.infoVal;refine Br3 w t s x _ v w.heap.size 240 D _ 2 16 Bu5 F G I J rfl Ck _ 0 [] z (Brw _ _ _ _) ⟨g,i,none⟩ l.length c (Bp l) A (Jm l) ?_ (Sg l) Pf Ck (Bru _) ?_
 ·intro j u K;rw[Bvc];exact B j u K
 intro O b m e _;rw[Brz,Btz]at m;obtain⟨f,vc,rfl⟩:=Bh m;exact h f vc b m ⟨e.os,e.tape,e.output,e.size,fun j L=>e.block j L (by simp[Value.ownBlock])⟩
def Brg{k:Cz}{M:Br}{X:List Rw}{w:TW}{o:Bz}{lv:TX}{g:TA}{u:Nat}{r:List (Bz×Value×Value)}{q a:TP}{b:Nat}(h:Bm k M X w)(f:M.os=(o,lv,.s g o.st.length u)::r)(l:o.st=q++a)(t:M.oa=some ⟨b,0,none⟩):Bm k (M.put ((⟨o.m,o.p,o.lo,q⟩,lv,.s g q.length u)::r)) X (w.setCell (.a b (r.length*4+3)) (.s g q.length u))/\(w.setCell (.a b (r.length*4+3)) (.s g q.length u)).C k.B 7 (.s (.p b) (r.length+1) M.oc) /\ ∀(j:Nat) (v:Array Value),w.heap[j]?=some (Obj.cells v 31 (0,0))->(w.setCell (.a b (r.length*4+3)) (.s g q.length u)).heap[j]?=w.heap[j]?:=by
 obtain⟨G,I,J,K,L,N,O,Q,V,Y,Z,tc,xa,xc⟩:=M;simp only at f t;subst f t;have A:q.length<=o.st.length:=by rw[l];simp
 have D:=Own.cut (i:=5) (n':=q.length) h Ls A;have c:=Own.cellE (i:=1) D Ls (Tv (o,lv,.s g o.st.length u) (⟨o.m,o.p,o.lo,q⟩,lv,.s g q.length u) r 3 (.s g q.length u) rfl);have e:(Bp o.st).take (q.length*2)=Bp q:=by rw[<- Ue,l];simp
 rw[e]at c;refine⟨c,Own.see (i:=0) (j:=7) c Ls Ls,fun j v F=>?_⟩;obtain⟨c2,z⟩:=Bp9 (Bm.orow h);refine Brk _ _ _ _ (fun e=>?_);simp only at e;rw[<- e,F]at z;simp at z
theorem Ps(k:Cz)(M:Br)(X:List Rw)(o:Bz)(lv sv:Value)(r:List (Bz×Value×Value))(s a:List (Int×Int))(w:World)(h:Bm k M X w)(F:M.os=(o,lv,sv)::r)(J:o.st=s++a)(hr:r.length<=1000)(hs:o.st.length<=1000):Calls prog 144 #[.pointer (some ⟨k.B,0,none⟩),.int .i64 (a.length:Int)] w fun e C=>∃L vc a9,e=.returned (.slice L a.length vc)/\Bm k (M.put ((⟨o.m,o.p,o.lo,s⟩,lv,a9)::r)) (Da (.slice L a.length vc) a::X) C/\∀v l,TyR w v l->TyR C v l:=by
 obtain⟨sa,D,b0⟩:∃a c,sv=.slice a o.st.length c:=Bh (h.srow F);subst b0;obtain⟨g,hg,N,a7,a2⟩:=h.last F;have O:w.cell? ⟨k.B,7,none⟩=some (.slice (some ⟨g,0,none⟩) (r.length+1) M.oc):=by
  rw[<- hg,show r.length+1=M.os.length by rw[F];rfl];exact h.cell Ls
 have g3:w.cell? ⟨g,r.length*4+3,none⟩=some (.slice sa o.st.length D):=a7 3 _ rfl;have a3:=h.ltB;have b4:IntKind.i64.wrap (((r.length+1:Nat):Int)-1)=(r.length:Int):=by rw[show ((r.length+1:Nat):Int)-1=(r.length:Int) by omega];exact Cx _ Ck Ck
 have a1:o.st.length=s.length+a.length:=by rw[J];simp
 have b5:IntKind.i64.wrap ((o.st.length:Int)-(a.length:Int))=(s.length:Int):=by rw[a1,show ((s.length+a.length:Nat):Int)-(a.length:Int)=(s.length:Int) by omega];exact Cx _ Ck Ck
 have a0:w.ownsRow k.w0.heap.size 240 2 (.slice sa o.st.length D) o.st.length (Bp o.st):=h.srow F;have Q:=Bc (fun (Y:List Rw) (C:World) (h':Bm k M Y C)=>Brg h' F J hg);have V:=Bc (fun (v:Value) (C:World) (hB:Below w.heap.size w C) (ho:C.ownsRow w.heap.size 240 2 v a.length (Bp a))=>Own.add_new (r:=Da v a) h hB ho);clear a7;generalize a4:r.length=f at *;generalize hn:o.st.length=n at *;generalize Z:a.length=m at *;generalize hq:s.length=q at *;have ri:(f:Int)<(f:Int)+1:=Ck;have q0:(q:Int)<=(n:Int):=Ck;have q1:¬((q:Int)<0):=Ck;rcases a0.2 with ⟨hv,hz⟩|⟨gs,b6,b8,hv,_,b9,b1,_,_,_⟩
 ·simp only[Value.slice.injEq]at hv;obtain⟨rfl,rfl,rfl⟩:=hv;obtain rfl:q=0:=Ck;obtain rfl:m=0:=Ck;obtain rfl:=Bso Z;clear a0 F h J a1 Z hn hq a4;go_in;go_wp2_with fail;have i:=Brm w.heap.size w;have G:Bm k M (Da (.slice none 0 0) []::X) w:=Own.mid ((Ba V) _ _ i (Brw _ _ _ _));obtain⟨z,b7,A⟩:=Ba Q _ _ G;have I:=(i.cell (p:=⟨k.B,7,none⟩) a3).trans O;have d3:=(i.cell (p:=⟨g,f*4+3,none⟩) N).trans g3;have f3:=(i.frozen (p:=⟨g,f*4+3,none⟩) N).trans (a2 _);have HF:=Bc (Bto z (Bto i A));clear G z A i O g3 Q V;refine Br4 (S:=fun C=>C.cell? ⟨k.B,7,none⟩=some (.slice (some ⟨g,0,none⟩) (f+1) M.oc)) Lt I (fun b=>?_);refine tq 0 (.pointer (some ⟨k.B,0,none⟩)) b ?_;refine tq 1 (.pointer (some ⟨k.B,0,none⟩)) b ?_;refine tq 2 (.pointer (some ⟨k.B,7,none⟩)) b ?_;refine tq 3 (.slice (some ⟨g,0,none⟩) (f+1) M.oc) b ?_;refine tq 4 (.int .i64 (f:Int)) b ?_;refine tq 5 (.pointer (some ⟨k.B,0,none⟩)) b ?_;refine tq 6 (.pointer (some ⟨k.B,0,none⟩)) b ?_;refine tq 7 (.pointer (some ⟨k.B,7,none⟩)) b ?_;refine tq 8 (.slice (some ⟨g,0,none⟩) (f+1) M.oc) b ?_;refine tq 9 (.int .i64 (f:Int)) b ?_;refine tq 10 (.pointer (some ⟨g,f*4,none⟩)) b ?_;refine tq 11 (.pointer (some ⟨g,f*4+3,none⟩)) b ?_;refine tq 13 (.int .i64 0) b ?_;refine tr 12 fun K t=>?_;go_simp;refine t.out _ _ I (fun b=>?_);clear t K
  try simp only[QX]
  refine tq 14 (.slice none 0 0) b ?_;refine tq 15 (.pointer (some ⟨g,f*4,none⟩)) b ?_;refine tq 16 (.pointer (some ⟨g,f*4+3,none⟩)) b ?_;refine tr 17 fun K t=>?_;go_simp;refine t.out _ _ b7 (fun b=>?_);clear t K
  try simp only[QX]
  refine Bsg Lt ?_ _;clear b;go_wp2;go_ret;obtain⟨z,i,A⟩:=Ba HF;exact⟨_,_,_,rfl,z.drew,fun v l h=>(h.below i).stays A⟩
 simp only[Value.slice.injEq,Buw]at hv;obtain⟨rfl,rfl⟩:=hv;have n1:(n:Int)<=(D:Int):=Ck;have a5:=fun j u hu=>World.ownsRow.cells a0 rfl j u hu;have a8:Hid (∀j u,(Bp a)[j]?=some u->w.cell? ⟨gs,q*2+j,none⟩=some u):=fun j u hu=>by
  have:=a5 (q*2+j) u (by rw[J,Ib,Br0 (by rw[Jm,hq];omega),Jm,hq,Btu];exact hu);rw[Bvc,Brz]at this;exact this
 by_cases b2:D=q
 ·subst b2;obtain rfl:m=0:=Ck;obtain rfl:D=n:=Ck;obtain rfl:=Bso Z;clear a0 a5 a8 F h J a1 Z hn hq a4 b1;go_in;go_wp2_with (at_builtin;refine Al rfl _ _ rfl rfl [] gs 0 0 Ls (fun j u h=>by simp[Bp]at h) (Bsb _) ?_)
  intro L vc w1 a6 i;have G:Bm k M (Da (.slice L 0 vc) []::X) w1:=Own.mid ((Ba V) _ _ i a6);obtain⟨z,b7,A⟩:=Ba Q _ _ G;have I:=(i.cell (p:=⟨k.B,7,none⟩) a3).trans O;have d3:=(i.cell (p:=⟨g,f*4+3,none⟩) N).trans g3;have f3:=(i.frozen (p:=⟨g,f*4+3,none⟩) N).trans (a2 _);have HF:=Bc (Bto z (Bto i A));clear G z A i O g3 Q V
  go_upto_region 8 with fail
  refine Br4 (S:=fun C=>C.cell? ⟨k.B,7,none⟩=some (.slice (some ⟨g,0,none⟩) (f+1) M.oc)) Lt I (fun b=>?_);refine tq 0 (.pointer (some ⟨k.B,0,none⟩)) b ?_;refine tq 1 (.pointer (some ⟨k.B,0,none⟩)) b ?_;refine tq 2 (.pointer (some ⟨k.B,7,none⟩)) b ?_;refine tq 3 (.slice (some ⟨g,0,none⟩) (f+1) M.oc) b ?_;refine tq 4 (.int .i64 (f:Int)) b ?_;refine tq 5 (.pointer (some ⟨k.B,0,none⟩)) b ?_;refine tq 6 (.pointer (some ⟨k.B,0,none⟩)) b ?_;refine tq 7 (.pointer (some ⟨k.B,7,none⟩)) b ?_;refine tq 8 (.slice (some ⟨g,0,none⟩) (f+1) M.oc) b ?_;refine tq 9 (.int .i64 (f:Int)) b ?_;refine tq 10 (.pointer (some ⟨g,f*4,none⟩)) b ?_;refine tq 11 (.pointer (some ⟨g,f*4+3,none⟩)) b ?_;refine tq 13 (.int .i64 (D:Int)) b ?_;refine tr 12 fun K t=>?_;go_simp;refine t.out _ _ I (fun b=>?_);clear t K
  try simp only[QX]
  refine tq 14 (.slice (some ⟨gs,0,none⟩) D D) b ?_;refine tq 15 (.pointer (some ⟨g,f*4,none⟩)) b ?_;refine tq 16 (.pointer (some ⟨g,f*4+3,none⟩)) b ?_;refine tr 17 fun K t=>?_;go_simp;refine t.out _ _ b7 (fun b=>?_);clear t K
  try simp only[QX]
  refine Bsg Lt ?_ _;clear b;go_wp2;go_ret;obtain⟨z,i,A⟩:=Ba HF;exact⟨_,_,_,rfl,z.drew,fun v l h=>(h.below i).stays A⟩
 have b3:Hid (a.length=n-q):=show a.length=n-q by omega
 have HM:=Bc (fun (_:Unit)=>Z);have m5:m<=100000:=Ck;have q2:¬D<q:=Ck;clear a0 a5 F h J a1 Z hn hq a4;go_in;go_wp2_with (at_builtin;refine Al rfl _ _ rfl rfl a gs (q*2) (D-q) (by rw[Ba b3];rfl) (Ba a8) (by rw[Ba HM ()];exact m5) ?_)
 rw[Ba HM ()];intro L vc w1 a6 i;have G:Bm k M (Da (.slice L m vc) a::X) w1:=Own.mid ((Ba V) _ _ i a6);obtain⟨z,b7,A⟩:=Ba Q _ _ G;have I:=(i.cell (p:=⟨k.B,7,none⟩) a3).trans O;have d3:=(i.cell (p:=⟨g,f*4+3,none⟩) N).trans g3;have f3:=(i.frozen (p:=⟨g,f*4+3,none⟩) N).trans (a2 _);have HF:=Bc (Bto z (Bto i A));clear G z A i O g3 Q V
 go_upto_region 8 with fail
 refine Br4 (S:=fun C=>C.cell? ⟨k.B,7,none⟩=some (.slice (some ⟨g,0,none⟩) (f+1) M.oc)) Lt I (fun b=>?_);refine tq 0 (.pointer (some ⟨k.B,0,none⟩)) b ?_;refine tq 1 (.pointer (some ⟨k.B,0,none⟩)) b ?_;refine tq 2 (.pointer (some ⟨k.B,7,none⟩)) b ?_;refine tq 3 (.slice (some ⟨g,0,none⟩) (f+1) M.oc) b ?_;refine tq 4 (.int .i64 (f:Int)) b ?_;refine tq 5 (.pointer (some ⟨k.B,0,none⟩)) b ?_;refine tq 6 (.pointer (some ⟨k.B,0,none⟩)) b ?_;refine tq 7 (.pointer (some ⟨k.B,7,none⟩)) b ?_;refine tq 8 (.slice (some ⟨g,0,none⟩) (f+1) M.oc) b ?_;refine tq 9 (.int .i64 (f:Int)) b ?_;refine tq 10 (.pointer (some ⟨g,f*4,none⟩)) b ?_;refine tq 11 (.pointer (some ⟨g,f*4+3,none⟩)) b ?_;refine tq 13 (.int .i64 (q:Int)) b ?_;refine tr 12 fun K t=>?_;go_simp;refine t.out _ _ I (fun b=>?_);clear t K
 try simp only[QX]
 refine tq 14 (.slice (some ⟨gs,0,none⟩) q D) b ?_;refine tq 15 (.pointer (some ⟨g,f*4,none⟩)) b ?_;refine tq 16 (.pointer (some ⟨g,f*4+3,none⟩)) b ?_;refine tr 17 fun K t=>?_;go_simp;refine t.out _ _ b7 (fun b=>?_);clear t K
 try simp only[QX]
 refine Bsg Lt ?_ _;clear b;go_wp2;go_ret;obtain⟨z,i,A⟩:=Ba HF;exact⟨_,_,_,rfl,z.drew,fun v l h=>(h.below i).stays A⟩
structure Cs where
 cs:List Rd.Cls
 ms:List Rd.Mth
 ins:List Int
 heap:Int
 depth:Int
abbrev Cs.T(E:Cs):List Int:=Tr.tree E.cs
def Cs.meth(E:Cs)(n:Nat):Rd.Mth:=E.ms.getD n Ef
def Cs.all(E:Cs)(c:Int):List (Int × Int):=Rf.all E.T (Rf.given++E.cs) c.toNat
def Cs.fld(E:Cs)(n:Int):Rf.Fld:=(Cp E.cs).getD n.toNat ⟨0,0,(0,0)⟩
def Xg:Dj:=⟨0,false,[]⟩
def Cc (ts:List Dj)(n:Int):Dj:=ts.getD n.toNat Xg
def Jf (T:TI)(ts:List Dj)(v t:Int × Int):Bool :=
 if t.1=1 then v.1==1 else if v.1=2 then (if v.2=0 then true else (Cc ts v.2).set&&Tr.rbel T (Cc ts v.2).cl t.2) else false
def Hh (T:TI)(ts:List Dj):TP->TP->Bool
 | v::a,t::b=>Jf T ts v t&&Hh T ts a b
 | [],[]=>true
 | _,_=>false
abbrev Ce(a:List (Int × Int)):Int × Int:=a.getD 0 (0,0)
abbrev Hl(a:List (Int × Int)):Int × Int:=a.getD 1 (0,0)
def Di (E:Cs)(d:Cv)(op n:Int)(a:TP):Int :=
 if op=10 then (if (Hl a).2=0 then 1 else 0)
 else if op=17\/op=18 then (if (Ce a).2=0 then 2 else 0)
 else if op=21 then (if (Ce a).2=0 then 2 else if E.depth<=(d.os.length:Int) then 5 else 0)
 else if op=23 then (if (Ce a).2=0 then 2 else (Ce a).2)
 else if op=15 then (if E.heap<=(d.made:Int) then 4 else 0)
 else if op=19 then (if Jf E.T d.ts (Ce a) (3,n)=true then 0 else 3)
 else if op=20 then (if E.depth<=(d.os.length:Int) then 5 else 0)
 else 0
def Gf (T:TI)(cl:Int)(p:Nat):List Rd.Hnd->Option Int
 | []=>none
 | h::r=>if h.frm<=(p:Int)/\(p:Int)<h.til/\Tr.rbel T cl h.cl=true then some h.target else Gf T cl p r
def Fj (E:Cs)(n cl:Int)(d:Cv):List Bz->Cv
 | []=>⟨[],d.ts,d.made,d.read,d.out,d.steps,2,cl⟩
 | o::r=>match Gf E.T cl o.p (E.meth o.m).handlers with
  | some t=>⟨⟨o.m,t.toNat,o.lo,[(2,n)]⟩::r,d.ts,d.made,d.read,d.out,d.steps,d.status,d.value⟩
  | none=>Fj E n cl d r
def Jb (v:Int):Int:=if 2147483647<v.tmod 4294967296 then v.tmod 4294967296-4294967296 else if v.tmod 4294967296 < -2147483648 then v.tmod 4294967296+4294967296 else v.tmod 4294967296
def Ip (op a b:Int):Int :=
 if op=7 then Jb (a+b) else if op=8 then Jb (a-b) else if op=9 then Jb (a*b) else if b=0 then 0 else Jb (a.tdiv b)
def Hg (E:Cs)(n:Nat)(a:TP):Bz:=⟨n,0,a++List.replicate ((E.meth n).locals.toNat-a.length) (0,0),[]⟩
def En (E:Cs)(c name:Int):List Rd.Mth->Nat->Nat->Nat
 | [],_,b=>b
 | m::r,i,b=>if m.cl≠255/\m.name=name/\Tr.rbel E.T c m.cl=true/\(E.meth b).cl<m.cl then En E c name r (i+1) i else En E c name r (i+1) b
def N1 (E:Cs)(d:Cv)(n o:Int):Nat:=En E (Cc d.ts o).cl (E.meth n.toNat).name E.ms 0 n.toNat
def Cg (E:Cs)(o:Bz):Nat:=o.p+Cd.wd ((E.meth o.m).code.getD o.p 0)
def Hq (op:Int)(a:TP):Bool:=op==11 || (op==12&&(Ce a).2==0) || (op==14&&(Ce a).2==0) || (op==13&&decide ((Ce a).2<(Hl a).2))
def Cv.top(d:Cv)(o:Bz)(r:List Bz):Cv:=⟨o::r,d.ts,d.made,d.read,d.out,d.steps,d.status,d.value⟩
def Cv.with(d:Cv)(ts:List Dj)(o:Bz)(r:List Bz):Cv:=⟨o::r,ts,d.made,d.read,d.out,d.steps,d.status,d.value⟩
def Kz (E:Cs)(d:Cv)(op n:Int)(a:TP):Int × Int :=
 if op=0 then (1,if 127<n then n-256 else n) else if op=1 then (2,0) else if op=19 then Ce a
 else if op=17 then (Cc d.ts (Ce a).2).vals.getD (E.fld n).slot.toNat (0,0)
 else (1,Ip op (Ce a).2 (Hl a).2)
def Hz (n:Nat)(v:Int × Int):Prop:=v=(0,0)\/(v.1=1/\-2147483648<=v.2/\v.2<=2147483647)\/(v.1=2/\0<=v.2/\v.2<(n:Int))
section
variable (E:Cs) (d:Cv) (o:Bz) (r:List Bz) (op n:Int) (a:List (Int × Int))
abbrev Bq.r0(P:Cv->Prop):Prop:=op=20->0<=n->n.toNat<E.ms.length->(a.length:Int)<=(E.meth n.toNat).locals->P (d.top (Hg E n.toNat a) (o::r))
abbrev Bq.r1(P:Cv->Prop):Prop:=op=21->0<=n->n.toNat<E.ms.length->0<a.length->0<=(Ce a).2->(Ce a).2<(d.ts.length:Int)->(a.length:Int)<=(E.meth (N1 E d n (Ce a).2)).locals->P (d.top (Hg E (N1 E d n (Ce a).2) a) (o::r))
abbrev Bq.r2(P:Cv->Prop):Prop:=op=22->r=[]->((E.meth o.m).result.1=1->0<a.length)->P ⟨[],d.ts,d.made,d.read,d.out,d.steps,0,if (E.meth o.m).result.1=1 then (Ce a).2 else 0⟩
abbrev Bq.r3(P:Cv->Prop):Prop:=∀(q:Bz) (r':List Bz),op=22->r=q::r'->a.length<=1->q.p<(E.meth q.m).code.length->((q.st.length+a.length:Nat):Int)<=(E.meth q.m).stack->P (d.top ⟨q.m,Cg E q,q.lo,q.st++a⟩ r')
abbrev Bq.r4(P:Cv->Prop):Prop:=11<=op->op<=14->(op=13->2<=a.length)->(op≠11->1<=a.length)->0<=n->Hq op a=true->P (d.top ⟨o.m,n.toNat,o.lo,o.st⟩ r)
abbrev Bq.r5(P:Cv->Prop):Prop:=12<=op->op<=14->(op=13->2<=a.length)->1<=a.length->Hq op a=false->P (d.top ⟨o.m,Cg E o,o.lo,o.st⟩ r)
abbrev Bq.r6(P:Cv->Prop):Prop:=op=2->0<=n->n<(o.lo.length:Int)->(o.lo.getD n.toNat (0,0)).1≠0->(o.st.length:Int)<(E.meth o.m).stack->P (d.top ⟨o.m,Cg E o,o.lo,o.st++[o.lo.getD n.toNat (0,0)]⟩ r)
abbrev Bq.r7(P:Cv->Prop):Prop:=∀(s:List (Int × Int)) (v:Int × Int),op=3->0<=n->n<(o.lo.length:Int)->o.st=s++[v]->P (d.top ⟨o.m,Cg E o,o.lo.set n.toNat v,s⟩ r)
abbrev Bq.r8(P:Cv->Prop):Prop:=∀(s:List (Int × Int)) (v:Int × Int),op=4->o.st=s++[v]->P (d.top ⟨o.m,Cg E o,o.lo,s⟩ r)
abbrev Bq.r9(P:Cv->Prop):Prop:=∀(s:List (Int × Int)) (v:Int × Int),op=5->o.st=s++[v]->((s.length+2:Nat):Int)<=(E.meth o.m).stack->P (d.top ⟨o.m,Cg E o,o.lo,s++[v,v]⟩ r)
abbrev Bq.r10(P:Cv->Prop):Prop:=∀(s:List (Int × Int)) (u v:Int × Int),op=6->o.st=s++[u,v]->((s.length+2:Nat):Int)<=(E.meth o.m).stack->P (d.top ⟨o.m,Cg E o,o.lo,s++[v,u]⟩ r)
abbrev Bq.r11(P:Cv->Prop):Prop:=op=15->(o.st.length:Int)<(E.meth o.m).stack->P ⟨⟨o.m,Cg E o,o.lo,o.st++[(2,(d.ts.length:Int))]⟩::r,d.ts++[⟨n,false,[]⟩],d.made+1,d.read,d.out,d.steps,d.status,d.value⟩
abbrev Bq.r12(P:Cv->Prop):Prop:=∀(s vs:List (Int × Int)) (k:Nat) (vals:List (Int × Int)),op=16->0<=n->n.toNat<E.T.length->o.st=s++(2,(k:Int))::vs->Hh E.T d.ts vs (E.all n)=true->(∀v∈vs,Hz d.ts.length v)->0<k->d.ts[k]?=some ⟨n,false,vals⟩->P (d.with (d.ts.set k ⟨n,true,vs⟩) ⟨o.m,Cg E o,o.lo,s⟩ r)
abbrev Bq.r13(P:Cv->Prop):Prop:=(op=0\/op=1\/op=7\/op=8\/op=9\/op=10\/op=17\/op=19)->(op=17->0<=n/\n.toNat<(Cp E.cs).length/\0<=(E.fld n).slot/\0<=(Ce a).2/\(Ce a).2<(d.ts.length:Int)/\(E.fld n).slot<((Cc d.ts (Ce a).2).vals.length:Int))->(op=17\/op=19->1<=a.length)->(7<=op->op<=10->2<=a.length)->(o.st.length:Int)<(E.meth o.m).stack->P (d.top ⟨o.m,Cg E o,o.lo,o.st++[Kz E d op n a]⟩ r)
abbrev Bq.r14(P:Cv->Prop):Prop:=op=24->d.read<E.ins.length->(o.st.length:Int)<(E.meth o.m).stack->P ⟨⟨o.m,Cg E o,o.lo,o.st++[(1,E.ins.getD d.read 0)]⟩::r,d.ts,d.made,d.read+1,d.out,d.steps,d.status,d.value⟩
abbrev Bq.r15(P:Cv->Prop):Prop:=op=24->E.ins.length<=d.read->(o.st.length:Int)<(E.meth o.m).stack->P (d.top ⟨o.m,Cg E o,o.lo,o.st++[(1,0)]⟩ r)
abbrev Bq.r16(P:Cv->Prop):Prop:=op=25->1<=a.length->P ⟨⟨o.m,Cg E o,o.lo,o.st⟩::r,d.ts,d.made,d.read,d.out++[(Ce a).2],d.steps,d.status,d.value⟩
abbrev Bq.r17(P:Cv->Prop):Prop:=op=18->2<=a.length->0<=n->n.toNat<(Cp E.cs).length->0<=(E.fld n).slot->0<=(Ce a).2->(Ce a).2<(d.ts.length:Int)->(E.fld n).slot<((Cc d.ts (Ce a).2).vals.length:Int)->P (d.with (d.ts.set (Ce a).2.toNat ⟨(Cc d.ts (Ce a).2).cl,(Cc d.ts (Ce a).2).set,(Cc d.ts (Ce a).2).vals.set (E.fld n).slot.toNat (Hl a)⟩) ⟨o.m,Cg E o,o.lo,o.st⟩ r)
def Bq (i0:Cv):Prop:=∀(P:Cv->Prop),Bq.r0 E d o r op n a P->Bq.r1 E d o r op n a P->Bq.r2 E d o r op a P->Bq.r3 E d r op a P->Bq.r4 d o r op n a P->Bq.r5 E d o r op a P->Bq.r6 E d o r op n P->Bq.r7 E d o r op n P->Bq.r8 E d o r op P->Bq.r9 E d o r op P->Bq.r10 E d o r op P->Bq.r11 E d o r op n P->Bq.r12 E d o r op n P->Bq.r13 E d o r op n a P->Bq.r14 E d o r op P->Bq.r15 E d o r op P->Bq.r16 E d o r op a P->Bq.r17 E d o r op n a P->P i0
end
section
variable {E:Cs}{d:Cv}{o:Bz}{r:List Bz}{op n:Int}{a:List (Int × Int)}
def Bq.call:Bq.r0 E d o r op n a (Bq E d o r op n a):=fun b c e f P g h i j l m p q s t v z A B C D F G=>g b c e f
def Bq.send:Bq.r1 E d o r op n a (Bq E d o r op n a):=fun b c e f g h i P l j m p q s t v z A B C D F G I J K=>j b c e f g h i
def Bq.ret0:Bq.r2 E d o r op a (Bq E d o r op n a):=fun b c e P g h f i j l m p q s t v z A B C D F=>f b c e
def Bq.ret:Bq.r3 E d r op a (Bq E d o r op n a):=fun q b c e f g h P j l m i p s t v z A B C D F G I J K=>i q b c e f g h
def Bq.jump:Bq.r4 d o r op n a (Bq E d o r op n a):=fun b c e f g h P j l m p i q s t v z A B C D F G I J=>i b c e f g h
def Bq.stay:Bq.r5 E d o r op a (Bq E d o r op n a):=fun b c e f g P i j l m p h q s t v z A B C D F G I=>h b c e f g
def Bq.load:Bq.r6 E d o r op n (Bq E d o r op n a):=fun b c e f g P i j l m p q h s t v z A B C D F G I=>h b c e f g
def Bq.store:Bq.r7 E d o r op n (Bq E d o r op n a):=fun s v b c e f P h i j l m p q g t z A B C D F G I J=>g s v b c e f
def Bq.pop:Bq.r8 E d o r op (Bq E d o r op n a):=fun s v b c P f g h i j l m p e q t z A B C D F G=>e s v b c
def Bq.dup:Bq.r9 E d o r op (Bq E d o r op n a):=fun s v b c e P g h i j l m p q t f z A B C D F G I=>f s v b c e
def Bq.swap:Bq.r10 E d o r op (Bq E d o r op n a):=fun s u v b c e P g h i j l m p q t z f A B C D F G I=>f s u v b c e
def Bq.new:Bq.r11 E d o r op n (Bq E d o r op n a):=fun b c P f g h i j l m p q s t e v z A B C D=>e b c
def Bq.init:Bq.r12 E d o r op n (Bq E d o r op n a):=fun s b k c e f g h i j l m P q t v z A B C D F G I J p K L N O Q=>p s b k c e f g h i j l m
def Bq.push:Bq.r13 E d o r op n a (Bq E d o r op n a):=fun b c e f g P i j l m p q s t v z A B C h D F G I=>h b c e f g
def Bq.read:Bq.r14 E d o r op (Bq E d o r op n a):=fun b c e P g h i j l m p q s t v z A B f C D F=>f b c e
def Bq.none:Bq.r15 E d o r op (Bq E d o r op n a):=fun b c e P g h i j l m p q s t v z A B C f D F=>f b c e
def Bq.out:Bq.r16 E d o r op a (Bq E d o r op n a):=fun b c P f g h i j l m p q s t v z A B C e D=>e b c
def Bq.put:Bq.r17 E d o r op n a (Bq E d o r op n a):=fun b c e f g h i j P m p q s t v z A B C D F G I J K L l=>l b c e f g h i j
def Bq.el{M:(i0:Cv)->Bq E d o r op n a i0->Prop}(call:op=20->0<=n->n.toNat<E.ms.length->(a.length:Int)<=(E.meth n.toNat).locals->∀h,M (d.top (Hg E n.toNat a) (o::r)) h)(send:op=21->0<=n->n.toNat<E.ms.length->0<a.length->0<=(Ce a).2->(Ce a).2<(d.ts.length:Int)->(a.length:Int)<=(E.meth (N1 E d n (Ce a).2)).locals->∀h,M (d.top (Hg E (N1 E d n (Ce a).2) a) (o::r)) h)(ret0:op=22->r=[]->((E.meth o.m).result.1=1->0<a.length)->∀h,M ⟨[],d.ts,d.made,d.read,d.out,d.steps,0,if (E.meth o.m).result.1=1 then (Ce a).2 else 0⟩ h)(ret:∀(q:Bz) (r':List Bz),op=22->r=q::r'->a.length<=1->q.p<(E.meth q.m).code.length->((q.st.length+a.length:Nat):Int)<=(E.meth q.m).stack->∀h,M (d.top ⟨q.m,Cg E q,q.lo,q.st++a⟩ r') h)(jump:11<=op->op<=14->(op=13->2<=a.length)->(op≠11->1<=a.length)->0<=n->Hq op a=true->∀h,M (d.top ⟨o.m,n.toNat,o.lo,o.st⟩ r) h)(stay:12<=op->op<=14->(op=13->2<=a.length)->1<=a.length->Hq op a=false->∀h,M (d.top ⟨o.m,Cg E o,o.lo,o.st⟩ r) h)(load:op=2->0<=n->n<(o.lo.length:Int)->(o.lo.getD n.toNat (0,0)).1≠0->(o.st.length:Int)<(E.meth o.m).stack->∀h,M (d.top ⟨o.m,Cg E o,o.lo,o.st++[o.lo.getD n.toNat (0,0)]⟩ r) h)(store:∀(s:TP) (v:Int×Int),op=3->0<=n->n<(o.lo.length:Int)->o.st=s++[v]->∀h,M (d.top ⟨o.m,Cg E o,o.lo.set n.toNat v,s⟩ r) h)(pop:∀(s:TP) (v:Int×Int),op=4->o.st=s++[v]->∀h,M (d.top ⟨o.m,Cg E o,o.lo,s⟩ r) h)(dup:∀(s:TP) (v:Int×Int),op=5->o.st=s++[v]->((s.length+2:Nat):Int)<=(E.meth o.m).stack->∀h,M (d.top ⟨o.m,Cg E o,o.lo,s++[v,v]⟩ r) h)(swap:∀(s:TP) (u v:Int×Int),op=6->o.st=s++[u,v]->((s.length+2:Nat):Int)<=(E.meth o.m).stack->∀h,M (d.top ⟨o.m,Cg E o,o.lo,s++[v,u]⟩ r) h)(new:op=15->(o.st.length:Int)<(E.meth o.m).stack->∀h,M ⟨⟨o.m,Cg E o,o.lo,o.st++[(2,(d.ts.length:Int))]⟩::r,d.ts++[⟨n,false,[]⟩],d.made+1,d.read,d.out,d.steps,d.status,d.value⟩ h)(init:∀(s vs:TP) (k:Nat) (vals:TP),op=16->0<=n->n.toNat<E.T.length->o.st=s++(2,(k:Int))::vs->Hh E.T d.ts vs (E.all n)=true->(∀v∈vs,Hz d.ts.length v)->0<k->d.ts[k]?=some ⟨n,false,vals⟩->∀h,M (d.with (d.ts.set k ⟨n,true,vs⟩) ⟨o.m,Cg E o,o.lo,s⟩ r) h)(push:(op=0\/op=1\/op=7\/op=8\/op=9\/op=10\/op=17\/op=19)->(op=17->0<=n/\n.toNat<(Cp E.cs).length/\0<=(E.fld n).slot/\0<=(Ce a).2/\(Ce a).2<(d.ts.length:Int)/\(E.fld n).slot<((Cc d.ts (Ce a).2).vals.length:Int))->(op=17\/op=19->1<=a.length)->(7<=op->op<=10->2<=a.length)->(o.st.length:Int)<(E.meth o.m).stack->∀h,M (d.top ⟨o.m,Cg E o,o.lo,o.st++[Kz E d op n a]⟩ r) h)(read:op=24->d.read<E.ins.length->(o.st.length:Int)<(E.meth o.m).stack->∀h,M ⟨⟨o.m,Cg E o,o.lo,o.st++[(1,E.ins.getD d.read 0)]⟩::r,d.ts,d.made,d.read+1,d.out,d.steps,d.status,d.value⟩ h)(none:op=24->E.ins.length<=d.read->(o.st.length:Int)<(E.meth o.m).stack->∀h,M (d.top ⟨o.m,Cg E o,o.lo,o.st++[(1,0)]⟩ r) h)(out:op=25->1<=a.length->∀h,M ⟨⟨o.m,Cg E o,o.lo,o.st⟩::r,d.ts,d.made,d.read,d.out++[(Ce a).2],d.steps,d.status,d.value⟩ h)(put:op=18->2<=a.length->0<=n->n.toNat<(Cp E.cs).length->0<=(E.fld n).slot->0<=(Ce a).2->(Ce a).2<(d.ts.length:Int)->(E.fld n).slot<((Cc d.ts (Ce a).2).vals.length:Int)->∀h,M (d.with (d.ts.set (Ce a).2.toNat ⟨(Cc d.ts (Ce a).2).cl,(Cc d.ts (Ce a).2).set,(Cc d.ts (Ce a).2).vals.set (E.fld n).slot.toNat (Hl a)⟩) ⟨o.m,Cg E o,o.lo,o.st⟩ r) h){i0:Cv}(h:Bq E d o r op n a i0):M i0 h:=h (fun i0=>∀h,M i0 h) call send ret0 ret jump stay load store pop dup swap new init push read none out put h
end
section
variable (E:Cs) (d:Cv)
abbrev Fp.r0(P:Cv->Prop):Prop:=∀(o:Bz) (r:List Bz) (s a:List (Int × Int)) (t:Nat),d.os=o::r->o.m<E.ms.length->o.p<(E.meth o.m).code.length->o.st=s++a->Hh E.T d.ts a (Co (Cp E.cs) E.ms (E.meth o.m).result ((E.meth o.m).code.getD o.p 0) (Cd.atI (E.meth o.m).code ((o.p:Int)+1)))=true->(∀v∈a,Hz d.ts.length v)->0<t->t<d.ts.length->Di E d ((E.meth o.m).code.getD o.p 0) (Cd.atI (E.meth o.m).code ((o.p:Int)+1)) a=(t:Int)->(∀q∈o::r,q.m<E.ms.length/\(Gf E.T (Cc d.ts t).cl q.p (E.meth q.m).handlers≠none->1<=(E.meth q.m).stack))->P (Fj E (t:Int) (Cc d.ts t).cl ⟨d.os,d.ts,d.made,d.read,d.out,d.steps+1,d.status,d.value⟩ (⟨o.m,o.p,o.lo,s⟩::r))
abbrev Fp.r1(P:Cv->Prop):Prop:=∀(o:Bz) (r:List Bz) (s a:List (Int × Int)) (d':Cv),d.os=o::r->o.m<E.ms.length->o.p<(E.meth o.m).code.length->o.st=s++a->Hh E.T d.ts a (Co (Cp E.cs) E.ms (E.meth o.m).result ((E.meth o.m).code.getD o.p 0) (Cd.atI (E.meth o.m).code ((o.p:Int)+1)))=true->(∀v∈a,Hz d.ts.length v)->Di E d ((E.meth o.m).code.getD o.p 0) (Cd.atI (E.meth o.m).code ((o.p:Int)+1)) a=0->Bq E ⟨⟨o.m,o.p,o.lo,s⟩::r,d.ts,d.made,d.read,d.out,d.steps+1,d.status,d.value⟩ ⟨o.m,o.p,o.lo,s⟩ r ((E.meth o.m).code.getD o.p 0) (Cd.atI (E.meth o.m).code ((o.p:Int)+1)) a d'->P d'
def Fp (i0:Cv):Prop:=∀(P:Cv->Prop),Fp.r0 E d P->Fp.r1 E d P->P i0
end
section
variable {E:Cs}{d:Cv}
def Fp.thrown:Fp.r0 E d (Fp E d):=fun o r s a t b c e f g h i j l m P p q=>p o r s a t b c e f g h i j l m
def Fp.does:Fp.r1 E d (Fp E d):=fun o r s a d' b c e f g h i j P m l=>l o r s a d' b c e f g h i j
def Fp.el{M:(i0:Cv)->Fp E d i0->Prop}(thrown:∀(o:Bz) (r:List Bz) (s a:TP) (t:Nat),d.os=o::r->o.m<E.ms.length->o.p<(E.meth o.m).code.length->o.st=s++a->Hh E.T d.ts a (Co (Cp E.cs) E.ms (E.meth o.m).result ((E.meth o.m).code.getD o.p 0) (Cd.atI (E.meth o.m).code ((o.p:Int)+1)))=true->(∀v∈a,Hz d.ts.length v)->0<t->t<d.ts.length->Di E d ((E.meth o.m).code.getD o.p 0) (Cd.atI (E.meth o.m).code ((o.p:Int)+1)) a=(t:Int)->(∀q∈o::r,q.m<E.ms.length/\(Gf E.T (Cc d.ts t).cl q.p (E.meth q.m).handlers≠none->1<=(E.meth q.m).stack))->∀h,M (Fj E (t:Int) (Cc d.ts t).cl ⟨d.os,d.ts,d.made,d.read,d.out,d.steps+1,d.status,d.value⟩ (⟨o.m,o.p,o.lo,s⟩::r)) h)(does:∀(o:Bz) (r:List Bz) (s a:TP) (d':Cv),d.os=o::r->o.m<E.ms.length->o.p<(E.meth o.m).code.length->o.st=s++a->Hh E.T d.ts a (Co (Cp E.cs) E.ms (E.meth o.m).result ((E.meth o.m).code.getD o.p 0) (Cd.atI (E.meth o.m).code ((o.p:Int)+1)))=true->(∀v∈a,Hz d.ts.length v)->Di E d ((E.meth o.m).code.getD o.p 0) (Cd.atI (E.meth o.m).code ((o.p:Int)+1)) a=0->Bq E ⟨⟨o.m,o.p,o.lo,s⟩::r,d.ts,d.made,d.read,d.out,d.steps+1,d.status,d.value⟩ ⟨o.m,o.p,o.lo,s⟩ r ((E.meth o.m).code.getD o.p 0) (Cd.atI (E.meth o.m).code ((o.p:Int)+1)) a d'->∀h,M d' h){i0:Cv}(h:Fp E d i0):M i0 h:=h (fun i0=>∀h,M i0 h) thrown does h
end
theorem Pc{k:Cz}{M:Br}{X:List Rw}{w:World}(h:Bm k M X w){n:Nat}(f:n<M.ts.length):∃g,M.ta=some ⟨g,0,none⟩/\g<w.heap.size/\(∀j u,(If M.ts[n])[j]?=some u->w.cell? ⟨g,n*3+j,none⟩=some u)/\∀j,w.frozen? ⟨g,j,none⟩=false:=by
 have b:=h.hrow;obtain⟨g,c,i,_,l⟩:=Cf b Ck;refine⟨g,c,i,fun j u e=>?_,fun j=>?_⟩
 ·have m:j<3:=(List.getElem?_eq_some_iff.1 e).1;rw[l _ (by rw[Kx If 3 (fun _=>rfl)];omega),Nk If 3 (fun _=>rfl) M.ts n f j m,e]
 rw[c]at b;exact World.ownsRow.frozenAt b j
def Nv{k:Cz}{M:Br}{X:List Rw}{w:TW}(h:Bm k M X w){n:Nat}(b:n<M.ts.length):w.ownsRow k.w0.heap.size 240 2 M.ts[n].2 M.ts[n].1.vals.length (Bp M.ts[n].1.vals) :=
 h.row (Jw M.ts[n]) (List.mem_append_left _ (by unfold Br.rows;simp only[Bub,Bs1];exact .inr (.inr (.inr (.inr (.inr (Bsc (Brn b))))))))
def Sv{M:Br}{n:Nat}(b:n<M.ts.length):Cc (M.ts.map Prod.fst) (n:Int)=M.ts[n].1:=by
 unfold Cc;rw[Brx,Vm,Bsf,Brl b];rfl
theorem Bfp(k:Cz)(M:Br)(X:List Rw)(t q j i:Int)(w:World)(hf:k.f.ok k.w0)(h:Bm k M X w)(I:t=2->0<=q/\q<(M.ts.length:Int))(R:Bool)(m:Jf k.f.T (M.ts.map Prod.fst) (t,q) (j,i)=R):Calls prog 145 #[.pointer (some ⟨k.B,0,none⟩),.agg #[.int .i64 t,.int .i64 q],.agg #[.int .i64 j,.int .i64 i]] w fun e c=>e=.returned (.bool R)/\Below w.heap.size w c:=by
 unfold Jf at m;simp only at m;have G:Below w.heap.size w ((w.alloc (O33 t q)).alloc (O7 j i)):=Bu w _ _;have V:=Be (w.alloc (O33 t q)) (O7 j i);have Y:=Bg (Be w (O33 t q)) (O7 j i);have b0:=(Bb Y 0).trans (show _=some (Value.int .i64 t) from rfl);have b1:=(Bb Y 1).trans (show _=some (Value.int .i64 q) from rfl);have y0:((w.alloc (O33 t q)).alloc (O7 j i)).cell? ⟨w.heap.size+1,0,none⟩=some (.int .i64 j):=by rw[show w.heap.size+1=(w.alloc (O33 t q)).heap.size by simp];exact(Bb V 0).trans rfl
 have y1:((w.alloc (O33 t q)).alloc (O7 j i)).cell? ⟨w.heap.size+1,1,none⟩=some (.int .i64 i):=by rw[show w.heap.size+1=(w.alloc (O33 t q)).heap.size by simp];exact(Bb V 1).trans rfl
 by_cases Z:j=1;·rw[Th Z]at m;subst Z m;clear I;go_in;go_wp2;go_ret;exact⟨rfl,G⟩
 rw[Pk Z]at m;by_cases J:t=2
 ·rw[Th J]at m;by_cases h3:q=0;·rw[Th h3]at m;subst J h3 m;clear I;go_in;go_wp2;go_ret;exact⟨rfl,G⟩
  rw[Pk h3]at m;obtain⟨b4,b7⟩:=I J;obtain⟨n,rfl⟩:=Brp b4;have hn:n<M.ts.length:=Ck;rw[Sv hn]at m;subst J;have C:=h.below G;obtain⟨g,hg,a0,N,_⟩:=Pc C hn;have c8:((w.alloc (O33 2 (n:Int))).alloc (O7 j i)).cell? ⟨k.B,8,none⟩=some (.slice (some ⟨g,0,none⟩) M.ts.length M.tc):=by rw[<- hg];exact C.cell Ls
  have c0:((w.alloc (O33 2 (n:Int))).alloc (O7 j i)).cell? ⟨k.B,0,none⟩=some (.slice k.f.a1 k.f.l.length k.f.c1):=C.cell Ls;have c1:((w.alloc (O33 2 (n:Int))).alloc (O7 j i)).cell? ⟨k.B,1,none⟩=some (.slice k.f.a2 k.f.ms.length k.f.c2):=C.cell Ls;have O:=C.ltB;have a4:=C.fok hf;obtain⟨z,vc,a5⟩:=Bh (Nv C hn);generalize M.ts[n]=x at *;obtain⟨⟨s,v,b5⟩,vv⟩:=x;simp only at a5;subst a5;generalize b5.length=A at *;have g0:((w.alloc (O33 2 (n:Int))).alloc (O7 j i)).cell? ⟨g,n*3,none⟩=some (.int .i64 s):=N 0 _ rfl;have g1:((w.alloc (O33 2 (n:Int))).alloc (O7 j i)).cell? ⟨g,n*3+1,none⟩=some (.bool v):=N 1 _ rfl;have g2:((w.alloc (O33 2 (n:Int))).alloc (O7 j i)).cell? ⟨g,n*3+2,none⟩=some (.slice z A vc):=N 2 _ rfl;simp only at m;have a3:=fun c (h':k.f.ok c)=>J9 k.f.a1 k.f.a2 k.f.c1 k.f.ms.length k.f.c2 k.f.bb k.f.l s i c (by have:=h'.1;omega) h'.2.2.2.2.1;have eT:Ct k.f.l=k.f.T:=rfl;rw[eT]at a3;generalize Tr.rbel k.f.T s i=b at *;generalize M.ts.length=L at *;have a6:=Bc a3;have a7:=Bc a4;have lE:w.heap.size+1<((w.alloc (O33 2 (n:Int))).alloc (O7 j i)).heap.size:=by simp only[World.alloc,Btb];omega
  have lD:w.heap.size<((w.alloc (O33 2 (n:Int))).alloc (O7 j i)).heap.size:=Ck;clear I N C h a3 a4 Y V hg eT;go_in;go_wp2_with fail;generalize hW:(w.alloc (O33 2 (n:Int))).alloc (O7 j i)=W at *;have Q:∀c,Below W.heap.size W c->c.cell? ⟨k.B,8,none⟩=some (.slice (some ⟨g,0,none⟩) L M.tc)/\c.cell? ⟨w.heap.size,1,none⟩=some (.int .i64 (n:Int))/\c.cell? ⟨g,n*3,none⟩=some (.int .i64 s)/\c.cell? ⟨g,n*3+1,none⟩=some (.bool v)/\c.cell? ⟨g,n*3+2,none⟩=some (.slice z A vc):=fun c K=>⟨QC K O c8,QC K lD b1,QC K a0 g0,QC K a0 g1,QC K a0 g2⟩
  go_region_held3 (fun c=>c.cell? ⟨k.B,8,none⟩=some (.slice (some ⟨g,0,none⟩) L M.tc)/\c.cell? ⟨w.heap.size,1,none⟩=some (.int .i64 (n:Int))/\c.cell? ⟨g,n*3,none⟩=some (.int .i64 s)/\c.cell? ⟨g,n*3+1,none⟩=some (.bool v)/\c.cell? ⟨g,n*3+2,none⟩=some (.slice z A vc))
   (first|with_reducible exact Q _ (Brm _ _).drew|with_reducible exact Q _ (QN _).drew|with_reducible exact Q _ (((((QN _).drew).setCell (Bru _) _).setCell (Bru _) _).setCell (Bru _) _))
   (fail)
  have D:Below W.heap.size W (W.alloc (O34 s v z A vc)).drew:=(QN _).drew;have a8:=QB G D;have hO:=Be W (O34 s v z A vc);have o0:(W.alloc (O34 s v z A vc)).drew.cell? ⟨W.heap.size,0,none⟩=some (.int .i64 s):=(Bb hO 0).trans rfl;have o1:(W.alloc (O34 s v z A vc)).drew.cell? ⟨W.heap.size,1,none⟩=some (.bool v):=(Bb hO 1).trans rfl;have d0:=(D.cell (p:=⟨k.B,0,none⟩) O).trans c0;have d1:=(D.cell (p:=⟨k.B,1,none⟩) O).trans c1;have z1:=(D.cell (p:=⟨w.heap.size+1,1,none⟩) lE).trans y1;have a9:=Bc ((Ba a7).below D);have lO:W.heap.size<(W.alloc (O34 s v z A vc)).drew.heap.size:=by simp[World.drew]
  have b2:=Brs O D.size;have b6:=Brs lE D.size;clear Q c8 b0 b1 g0 g1 g2 c0 c1 y0 y1 D a7 G hO;generalize (W.alloc (O34 s v z A vc)).drew=w3 at *;generalize W.heap.size=p at *;go_wp2_with fail
  go_region_held3 (fun c=>c.cell? ⟨k.B,0,none⟩=some (.slice k.f.a1 k.f.l.length k.f.c1)/\c.cell? ⟨k.B,1,none⟩=some (.slice k.f.a2 k.f.ms.length k.f.c2)/\c.cell? ⟨p,0,none⟩=some (.int .i64 s)/\c.cell? ⟨w.heap.size+1,1,none⟩=some (.int .i64 i))
   (first|exact⟨d0,d1,o0,z1⟩|exact⟨QC F b2 d0,QC F b2 d1,QC F lO o0,QC F b6 z1⟩)
   (first|(go_at_call 91;refine(Ba a6 _ ((Ba a9).below (Brm _ _).drew)).mono ?_;rintro e w7 ⟨rfl,F⟩))
  have o7:=(F.cell (p:=⟨p,1,none⟩) lO).trans o1;have b3:=a8.drew.trans (F.mono a8.size);clear F d0 d1 o0 o1 z1 a6 a9;cases v with
  | false =>
   simp only[Bt6]at m;subst m;go_wp2;go_ret;exact⟨rfl,b3⟩
  | true =>
   simp only[Bts]at m;subst m;go_wp2;go_ret;exact⟨rfl,b3⟩
 rw[Pk J]at m;subst m;clear I;go_in;go_wp2;go_ret;exact⟨rfl,G⟩
def Ak{z:TI}{I:List Dj}:∀{a l:TP},Hh z I a l=true->a.length=l.length/\∀q (b:q<a.length) (c:q<l.length),Jf z I a[q] l[q]=true
 | [],[],_=>⟨rfl,fun q h=>absurd h Hd⟩
 | [],_::_,h=>by simp[Hh]at h
 | _::_,[],h=>by simp[Hh]at h
 | v::a,t::l,h=>by
  simp only[Hh,Bsq]at h;obtain⟨e,f⟩:=Ak h.2;refine⟨by simp[e],fun q b c=>?_⟩;cases q with
  | zero=>exact h.1
  | succ j=>exact f j (by simpa using b) (by simpa using c)
def Mo{w:TW}{u:Nat}{a:TA}{b:Nat}{q:TP}(h:w.ownsRow u 240 2 (.s a q.length b) q.length (Bp q)){t:Nat}(f:t<q.length):∃g,a=some ⟨g,0,none⟩/\g<w.heap.size/\w.C g (t*2) (.i q[t].1)/\w.C g (t*2+1) (.i q[t].2):=by
 obtain⟨g,j,m,_,e⟩:=Cf h Ck;obtain⟨p,v,z⟩:=Fu q t f;exact⟨g,j,m,(e _ Ck).trans p,(e _ z).trans v⟩
def Za(k:Cz)(M:Br)(X:List Rw)(o:Bz)(lv sv:TX)(r:List (Bz×Value×Value))(s a b:TP)(Q:TA)(V:Nat)(w:TW)(hf:k.f.ok k.w0)(h:Bm k M X w)(hM:M.os=(o,lv,sv)::r)(Z:o.st=s++a)(hr:r.length<=1000)(F:o.st.length<=1000) (a0:TyR w (.s Q b.length V) b)(a1:Hh k.f.T (M.ts.map Prod.fst) a b=true)(a2:∀v∈a,v.1=2->0<=v.2/\v.2<(M.ts.length:Int)):Calls prog 99 #[.q k.B 0,.s Q b.length V] w fun e j=>∃l vc G,e=.r (.s l a.length vc)/\Bm k (M.put ((⟨o.m,o.p,o.lo,s⟩,lv,G)::r)) (Da (.s l a.length vc) a::X) j:=by
 obtain⟨a3,a4⟩:=Ak a1;have hO:=Ps k M X o lv sv r s a w h hM Z hr F;have b4:a.length<=1000:=by rw[Z]at F;simp at F;omega
 have HI:=Bc (fun (z:Br) (Y:List Rw) (j:TW) (e:z.ts=M.ts) (h':Bm k z Y j) q (c:q<a.length) (h2:q<b.length)=>Bfp k z Y a[q].1 a[q].2 b[q].1 b[q].2 j hf h' (by rw[e];exact a2 _ (Brn c)) true (by rw[e];exact a4 q c h2));clear h hM Z hr F a1 a4 a2;obtain⟨m,I,J⟩:∃m,a.length=m/\b.length=m:=⟨_,a3,rfl⟩;rw[I]at hO b4;rw[J]at a0;rw[I,J];have HO:=Bc hO;have HA:=Bc (fun (_:Unit)=>I);have HW:=Bc (fun (_:Unit)=>J);have a5:=Bc a0;clear a0 a3 I J hO;go_in;go_wp2_with fail;refine(Ba HO).mono ?_;rintro e w1 ⟨l,vc,G,rfl,c,a6⟩;have A:=a6 _ _ (Ba a5);clear HO a5 a6;generalize a7:M.put ((⟨o.m,o.p,o.lo,s⟩,lv,G)::r)=z at *;have b5:z.ts=M.ts:=by rw[<- a7];rfl
 go_wp2
 go_loopw [6] (fun i wr=>∃q:Nat,q<=m/\i=.i (q:Int)/\Bm k z (Da (.s l m vc) a::X) wr/\TyR wr (.s Q m V) b)
  (fun i _=>m-(intOf i).toNat)
 case atStart=>exact⟨0,Ck,rfl,c,A⟩
 case round=>
  clear c A;obtain⟨q,hq,rfl,c,A⟩:=hrel;have hR:wr.ownsRow k.w0.heap.size 240 2 (.s l a.length vc) a.length (Bp a):=by
   have:=c.row (Da (.s l m vc) a) Hd;rw[<- Ba HA ()]at this;exact this
  by_cases a8:q<m
  ·have a9:q<a.length:=by rw[Ba HA ()];exact a8
   have b0:q<b.length:=by rw[Ba HW ()];exact a8
   obtain⟨g,rfl,hg,K,L⟩:=Mo hR a9;obtain⟨g2,o2,rfl,b1,b2⟩:=A.at Ck;obtain⟨N,O⟩:=b2 q b0;have HC:=Bc (Ba HI z _ _ b5 (c.drew) q a9 b0);generalize a[q]=s at *;generalize b[q]=t at *;obtain⟨s1,s2⟩:=s;obtain⟨t1,t2⟩:=t;simp only at K L N O HC;have kb:(q:Int)<(m:Int):=Ck;have H1:=Bc c;have b3:=Bc A;clear b2 hR c A;go_wp2
   go_region_held3 (fun j=>j.C g (q*2) (.i s1)/\j.C g (q*2+1) (.i s2)/\j.C g2 (o2+q*2) (.i t1)/\j.C g2 (o2+q*2+1) (.i t2))
    (first|exact⟨K,L,N,O⟩|exact⟨QC D hg K,QC D hg L,QC D b1 N,QC D b1 O⟩)
    (first|(go_at_call 145;refine(Ba HC).mono ?_;rintro e w7 ⟨rfl,D⟩))
   have h7:=(Ba H1).drew.below D;have b6:=((Ba b3).below (Brm _ _).drew).below D;clear D K L N O HC H1 b3;go_wp2;go_roundw
   case rel=>exact⟨q+1,Ck,Mg,h7,b6⟩
   case measure=>simp[intOf];omega
  have kb:¬(q:Int)<(m:Int):=Ck;clear hR A;go_wp2;go_ret;exact⟨l,vc,rfl,G,by rw[a7];exact c⟩
def Bm.drop{k:Cz}{M:Br}{X:List Rw}{x:Rw}{w:TW}(h:Bm k M (x::X) w):Bm k M X w:=Own.sub h (Buz (Bv3 _) (Btc x X))
def Bgl{x x':Bz×Value×Value}(r:List (Bz×Value×Value))(h:Fe x'=Fe x):(x'::r).reverse.flatMap Fe=(x::r).reverse.flatMap Fe:=by
 rw[Btp,Btp,Bst,Bst];simp[h]
def Boa{k:Cz}{M:Br}{X:List Rw}{w:TW}{o:Bz}{sv:TX}{u b:Nat}{r:List (Bz×Value×Value)}(h:Bm k M X w)(g:M.os=(o,.s (.p u) o.lo.length b,sv)::r)(q:Nat)(c f:Int):Bm k (M.put ((⟨o.m,o.p,o.lo.set q (c,f),o.st⟩,.s (.p u) o.lo.length b,sv)::r)) X ((w.setCell (.a u (q*2)) (.i c)).setCell (.a u (q*2+1)) (.i f)):=by
 obtain⟨t,v,z,A,B,C,D,F,G,I,J,K,L,N⟩:=M;simp only at g;subst g;have j:=Own.cell (i:=4) h Ls (q*2) (.i c);have l:=Own.cellE (i:=4) j Ls (Vj o.lo q c f).symm;have e:(o.lo.set q (c,f)).length=o.lo.length:=Hd;unfold Bm Br.rows Br.put;simp only[Bsz,J3,Da,e];rw[Bgl (x:=(o,.s (.p u) o.lo.length b,sv)) (x':=(⟨o.m,o.p,o.lo.set q (c,f),o.st⟩,.s (.p u) o.lo.length b,sv)) r rfl];exact l
theorem Ir{k:Cz}{M:Br}{X:List Rw}{w:World}{o:Bz}{lv sv:Value}{r:List (Bz×Value×Value)}(h:Bm k M X w)(c:M.os=(o,lv,sv)::r):∃g,M.oa=some ⟨g,0,none⟩/\g<w.heap.size/\w.cell? ⟨k.B,7,none⟩=some (.slice (some ⟨g,0,none⟩) (r.length+1) M.oc)/\w.cell? ⟨g,r.length*4,none⟩=some (.int .i64 (o.m:Int))/\w.cell? ⟨g,r.length*4+1,none⟩=some (.int .i64 (o.p:Int))/\w.cell? ⟨g,r.length*4+2,none⟩=some lv/\w.cell? ⟨g,r.length*4+3,none⟩=some sv/\∀j,w.frozen? ⟨g,j,none⟩=false:=by
 obtain⟨g,e,f,b,i⟩:=h.last c;refine⟨g,e,f,?_,b 0 _ rfl,b 1 _ rfl,b 2 _ rfl,b 3 _ rfl,i⟩;rw[<- e,show r.length+1=M.os.length by rw[c];rfl];exact h.cell Ls
def Bpv{k:Cz}{M:Br}{X:List Rw}{w:TW}{o:Bz}{sv:TX}{u b:Nat}{r:List (Bz×Value×Value)}(h:Bm k M X w)(c:M.os=(o,.s (.p u) o.lo.length b,sv)::r){n:Nat}(f:n<o.lo.length):u<w.heap.size/\True/\w.C u (n*2) (.i o.lo[n].1)/\w.C u (n*2+1) (.i o.lo[n].2):=by
 obtain⟨g,e,j,l,m⟩:=Mo (h.lrow c) f;simp only[Option.some.injEq,Addr.mk.injEq,Br8]at e;subst e;exact⟨j,trivial,l,m⟩
def Bpu{k:Cz}{M:Br}{X:List Rw}{w:TW}{o:Bz}{sv:TX}{u b:Nat}{r:List (Bz×Value×Value)}(h:Bm k M X w)(c:M.os=(o,.s (.p u) o.lo.length b,sv)::r)(j:Nat):w.frozen? (.a u j)=false:=World.ownsRow.frozenAt (h.lrow c) j
def Oo(n:Nat)(h:n<=1000):IntKind.i64.wrap (((n+1:Nat):Int)-1)=(n:Int):=by rw[show ((n+1:Nat):Int)-1=(n:Int) by omega];exact Cx _ Ck Ck
def Biv(k:Cz)(M:Br)(X:List Rw)(o:Bz)(lv sv:TX)(r:List (Bz×Value×Value))(n:Nat)(w:TW)(D:k.f.ok k.w0)(h:Bm k M X w)(b:M.os=(o,lv,sv)::r)(t:r.length<=1000)(F:o.st.length<=1000)(z:o.m<k.f.ms.length)(A:(o.st.length:Int)<k.f.ms[o.m].1.m.stack)(G:n<o.lo.length)(C:o.lo[n].1≠0):Calls prog 150 #[.q k.B 0,.i 2,.i (n:Int)] w fun e j=>e=.r (.tuple #[])/\∃l,Bm k (M.put ((⟨o.m,o.p,o.lo,o.st++[o.lo[n]]⟩,lv,l)::r)) X j:=by
 obtain⟨V,Y,I⟩:∃a c,lv=.s a o.lo.length c:=Bh (h.lrow b);subst I;obtain⟨Z,rfl,_,x0,x1⟩:=Mo (h.lrow b) G;obtain⟨g,J,a0,c7,-,-,g2,-,-⟩:=Ir h b;have K:=Bc (fun (j:TW) (L:Bl w j)=>Ja k M X o _ sv r o.lo[n].1 o.lo[n].2 j D (h.below L) b z A t F);have a1:=Oo r.length t;have ri:(r.length:Int)<(r.length:Int)+1:=Ck;have ni:(n:Int)<(o.lo.length:Int):=Ck;generalize N:o.lo[n]=v at *;obtain⟨O,v2⟩:=v;have a2:(O==0)=false:=by simpa using C
 clear h b J C N z A;go_in;go_wp2_with fail;refine Qm (Ba K _ (QN _)) ?_;rintro w1 ⟨l,Q⟩;go_wp2;refine Wf (Btf rfl _ _ _) rfl ?_;exact⟨rfl,l,Q⟩
theorem Nu{k:Cz}{M:Br}{X:List Rw}{w:World}{g:Option Addr}{vc n:Nat}{a:List (Int×Int)}(h:Bm k M (Da (.slice g n vc) a::X) w)(c:n=a.length){q:Nat}(e:q<a.length):∃b,g=some ⟨b,0,none⟩/\b<w.heap.size/\w.cell? ⟨b,q*2,none⟩=some (.int .i64 a[q].1)/\w.cell? ⟨b,q*2+1,none⟩=some (.int .i64 a[q].2):=by
 subst c;exact Mo (h.row (Da (.slice g a.length vc) a) Hd) e
def Blp(k:Cz)(M:Br)(X:List Rw)(o:Bz)(lv sv:TX)(r:List (Bz×Value×Value))(n:Int)(s:TP)(v:Int×Int)(w:TW)(h:Bm k M X w)(c:M.os=(o,lv,sv)::r)(t:r.length<=1000)(A:o.st.length<=1000)(z:o.st=s++[v]):Calls prog 150 #[.q k.B 0,.i 4,.i n] w fun e b=>e=.r (.tuple #[])/\∃f,Bm k (M.put ((⟨o.m,o.p,o.lo,s⟩,lv,f)::r)) X b:=by
 obtain⟨g,C,I,J,-,-,-,-,-⟩:=Ir h c;have D:=Bc (fun (b:TW) (F:Bl w b)=>Ps k M X o lv sv r s [v] b (h.below F) c z t A);have K:=Oo r.length t;have L:(r.length:Int)<(r.length:Int)+1:=Ck;clear h c C z;go_in;go_wp2_with fail;refine(Ba D _ (Brm _ _)).mono ?_;rintro e N ⟨O,vc,f,rfl,l,-⟩;have Q:=l.cell (j:=15) Ls;have G:=Bc l.drop;clear l;go_wp2;go_end0;exact⟨rfl,f,Ba G⟩
def Blr(k:Cz)(M:Br)(X:List Rw)(o:Bz)(lv sv:TX)(r:List (Bz×Value×Value))(n:Int)(s:TP)(v:Int×Int)(w:TW)(F:k.f.ok k.w0)(h:Bm k M X w)(z:M.os=(o,lv,sv)::r)(l:r.length<=1000)(A:o.st.length<=1000)(C:o.st=s++[v])(G:o.m<k.f.ms.length)(hl:((s.length+2:Nat):Int)<=k.f.ms[o.m].1.m.stack):Calls prog 150 #[.q k.B 0,.i 5,.i n] w fun e b=>e=.r (.tuple #[])/\∃V,Bm k (M.put ((⟨o.m,o.p,o.lo,s++[v,v]⟩,lv,V)::r)) X b:=by
 obtain⟨g,Y,a4,Z,-,-,-,-,-⟩:=Ir h z;have I:=Bc (fun (b:TW) (c:Bl w b)=>Ps k M X o lv sv r s [v] b (h.below c) z C l A);have a5:=Oo r.length l;have ri:(r.length:Int)<(r.length:Int)+1:=Ck;have a6:s.length+1<=1000:=by rw[C]at A;simpa using A
 clear h z Y C;go_in;go_wp2_with fail;refine(Ba I _ (Brm _ _)).mono ?_;rintro e w1 ⟨va,vc,a0,rfl,t,-⟩;have a1:=t.cell (j:=15) Ls;obtain⟨gv,rfl,_,J,K⟩:=Nu t rfl (q:=0) Hd;have L:=Bc (fun (b:TW) (c:Bl w1 b)=>Ja k _ _ ⟨o.m,o.p,o.lo,s⟩ lv a0 r v.1 v.2 b F (t.below c) rfl G Mc l Mc);clear t I;simp only[Btn,Bsm,Brz]at J K;go_wp2_with fail;refine Qm (Ba L _ (Brm _ _)) ?_;rintro w2 ⟨a2,D⟩;obtain⟨a7,N,_,y0,y1⟩:=Nu D rfl (q:=0) Hd;simp only[Option.some.injEq,Addr.mk.injEq,Br8]at N;subst N;simp only[Btn,Bsm,Brz]at y0 y1;have O:=Bc (fun (b:TW) (c:Bl w2 b)=>Ja k _ _ ⟨o.m,o.p,o.lo,s++[v]⟩ lv a2 r v.1 v.2 b F (D.below c) rfl G Fr l Fr);clear D L J K a1 Z;go_wp2_with fail;refine Qm (Ba O _ (Brm _ _)) ?_;rintro w3 ⟨a3,Q⟩;have H3:=Bc Q.drop;clear Q O;go_wp2;go_end0;refine⟨rfl,a3,?_⟩;have:=Ba H3;rw[Bsi]at this;exact this
def Bin(k:Cz)(M:Br)(X:List Rw)(o:Bz)(lv sv:TX)(r:List (Bz×Value×Value))(n:Int)(s:TP)(u v:Int×Int)(w:TW)(F:k.f.ok k.w0)(h:Bm k M X w)(z:M.os=(o,lv,sv)::r)(l:r.length<=1000)(A:o.st.length<=1000)(C:o.st=s++[u,v])(G:o.m<k.f.ms.length)(hl:((s.length+2:Nat):Int)<=k.f.ms[o.m].1.m.stack):Calls prog 150 #[.q k.B 0,.i 6,.i n] w fun e b=>e=.r (.tuple #[])/\∃V,Bm k (M.put ((⟨o.m,o.p,o.lo,s++[v,u]⟩,lv,V)::r)) X b:=by
 obtain⟨g,Y,a4,Z,-,-,-,-,-⟩:=Ir h z;have I:=Bc (fun (b:TW) (c:Bl w b)=>Ps k M X o lv sv r s [u,v] b (h.below c) z C l A);have a5:=Oo r.length l;have ri:(r.length:Int)<(r.length:Int)+1:=Ck;have a6:s.length+2<=1000:=by rw[C]at A;simpa using A
 clear h z Y C;go_in;go_wp2_with fail;refine(Ba I _ (Brm _ _)).mono ?_;rintro e w1 ⟨va,vc,a0,rfl,t,-⟩;have a1:=t.cell (j:=15) Ls;obtain⟨gv,rfl,_,J,K⟩:=Nu t rfl (q:=1) Hd;have L:=Bc (fun (b:TW) (c:Bl w1 b)=>Ja k _ _ ⟨o.m,o.p,o.lo,s⟩ lv a0 r v.1 v.2 b F (t.below c) rfl G Mc l Mc);clear t I;simp only[List.getElem_cons_succ,Btn,Bug]at J K;go_wp2_with fail;refine Qm (Ba L _ (Brm _ _)) ?_;rintro w2 ⟨a2,D⟩;obtain⟨a7,N,_,y0,y1⟩:=Nu D rfl (q:=0) Hd;simp only[Option.some.injEq,Addr.mk.injEq,Br8]at N;subst N;simp only[Btn,Bsm,Brz]at y0 y1;have O:=Bc (fun (b:TW) (c:Bl w2 b)=>Ja k _ _ ⟨o.m,o.p,o.lo,s++[v]⟩ lv a2 r u.1 u.2 b F (D.below c) rfl G Fr l Fr);clear D L J K a1 Z;go_wp2_with fail;refine Qm (Ba O _ (Brm _ _)) ?_;rintro w3 ⟨a3,Q⟩;have H3:=Bc Q.drop;clear Q O;go_wp2;go_end0;refine⟨rfl,a3,?_⟩;have:=Ba H3;rw[Bsi]at this;exact this
def Bgi(k:Cz)(M:Br)(X:List Rw)(o:Bz)(lv sv:TX)(r:List (Bz×Value×Value))(n:Nat)(s:TP)(v:Int×Int)(w:TW)(h:Bm k M X w)(l:M.os=(o,lv,sv)::r)(I:r.length<=1000)(hs:o.st.length<=1000)(J:o.st=s++[v])(K:n<o.lo.length):Calls prog 150 #[.q k.B 0,.i 3,.i (n:Int)] w fun e b=>e=.r (.tuple #[])/\∃a0,Bm k (M.put ((⟨o.m,o.p,o.lo.set n v,s⟩,lv,a0)::r)) X b:=by
 obtain⟨g,hg,a3,z,-,-,-,-,-⟩:=Ir h l;have L:=Bc (fun (b:TW) (hb:Bl w b)=>Ps k M X o lv sv r s [v] b (h.below hb) l J I hs);have a4:=Oo r.length I;have ri:(r.length:Int)<(r.length:Int)+1:=Ck;obtain⟨la,lc,a1⟩:∃a c,lv=.s a o.lo.length c:=Bh (h.lrow l);subst a1;obtain⟨gl,rfl,_,_,_⟩:=Mo (h.lrow l) K;have ni:(n:Int)<(o.lo.length:Int):=Ck;clear h l hg J;go_in;go_wp2_with fail;refine(Ba L _ (Brm _ _)).mono ?_;rintro e w1 ⟨va,vc,a2,rfl,f,-⟩;clear z L;have a5:=f.cell (j:=15) Ls;obtain⟨N,rfl,_,A,D⟩:=Nu f rfl (q:=0) Hd;obtain⟨O,Q,a6,z,-,-,g2,-,-⟩:=Ir f rfl;have t:=Boa (f.drew) rfl n v.1 v.2;obtain⟨a7,V,_,F,G⟩:=Nu t rfl (q:=0) Hd;simp only[Option.some.injEq,Addr.mk.injEq,Br8]at V;subst V;obtain⟨a8,Y,_,d7,-,-,d2,-,-⟩:=Ir t rfl;have Z:=Q.symm.trans Y;simp only[Option.some.injEq,Addr.mk.injEq,Br8]at Z;subst Z;obtain⟨_,_,z0,z1⟩:=Bpv f rfl K;have zf:=Bpu f rfl;have H2:=Bc t.drop;clear f t Q Y;simp only[Btn,Bsm,Brz]at A D F G z0 z1;obtain⟨v1,v2⟩:=v;simp only at A D F G;go_wp2
 go_region_held3 (fun b=>b.C k.B 7 (.s (.p O) (r.length+1) M.oc)/\b.C O (r.length*4+2) (.s (.p gl) o.lo.length lc)/\b.C N 0 (.i v1)/\b.C N 1 (.i v2))
  (first|exact⟨z,g2,A,D⟩|exact⟨d7,d2,F,G⟩)
  (fail)
 go_wp2;go_end0;exact⟨rfl,a2,Ba H2⟩
def Tryz.infoThing:(prog.info? 118).map (fun i=>(i.zero,i.size,i.bytes))=some (some (.agg #[.i 0,.bool false,.s none 0 0]),3,40):=Lt
def Br.thing(M:Br)(c:Int)(ta:TA)(tc:Nat):Br:=⟨M.os,M.ts++[(⟨c,false,[]⟩,.slice none 0 0)],M.made+1,M.read,M.out,M.steps,M.status,M.value,M.oa,M.oc,ta,tc,M.xa,M.xc⟩
def Bll{k:Cz}{M:Br}{X:List Rw}{w w9:TW}{c:Int}{ta:TA}{tc:Nat}(h:Bm k M X w)(m:w9.ownsRow k.w0.heap.size 118 3 (.s ta (M.ts.length+1) tc) (M.ts.length+1) (M.ts.flatMap If++[.i c,.bool false,.s none 0 0])) (q:w.grownBy w9 (Value.slice M.ta M.ts.length M.tc).ownBlock)(t:(Value.slice ta (M.ts.length+1) tc).ownBlock=(Value.slice M.ta M.ts.length M.tc).ownBlock\/(Value.slice ta (M.ts.length+1) tc).ownBlock=some w.heap.size):w9.C k.B 8 (.s M.ta M.ts.length M.tc)/\w9.frozen? (.a k.B 8)=false/\(w9.setCell (.a k.B 8) (.s ta (M.ts.length+1) tc)).C k.B 9 (.i (M.made:Int))/\(w9.setCell (.a k.B 8) (.s ta (M.ts.length+1) tc)).frozen? (.a k.B 9)=false/\Bm k (M.thing c ta tc) X ((w9.setCell (.a k.B 8) (.s ta (M.ts.length+1) tc)).setCell (.a k.B 9) (.i ((M.made:Int)+1))):=by
 obtain⟨v,b,e,z,A,D,F,G,I,J,K,N,O,Q⟩:=M;simp only at m q t ⊢;have f:=Own.app (i:=2) h Ls m q t;have g:=Own.cell (i:=0) f Ls 8 (.s ta (b.length+1) tc);have V:=Own.cell (i:=0) g Ls 9 (.i ((e:Int)+1));refine⟨Own.see (i:=0) (j:=8) f Ls Ls,Own.free (i:=0) f Ls 8,Own.see (i:=0) (j:=9) g Ls Ls,Own.free (i:=0) g Ls 9,?_⟩;have l:=Own.mid (L:=Br.rows k ⟨v,b,e,z,A,D,F,G,I,J,K,N,O,Q⟩ |>.set 2 ⟨118,3,.s ta (b.length+1) tc,b.length+1,b.flatMap If++[.i c,.bool false,.s none 0 0]⟩ |>.set 0 ⟨115,16,.s (.p k.B) 1 1,1,(Br.thing ⟨v,b,e,z,A,D,F,G,I,J,K,N,O,Q⟩ c ta tc).cells k⟩) (X:=X) (r:=Da (.s none 0 0) []) (by
  have Y:=Own.add_nil V 240 2;unfold Br.thing Br.cells;simp only[Ws,Br7,Bs2,Brz,Bvi];exact Y)
 unfold Bm Br.thing Br.rows;unfold Br.thing Br.rows at l;simp only[Bse,Bsw,Buu,Bst,Bsz,Bwd,Btg,Ws,Br7,Bs2,Brz,<- Bsi]at l ⊢;simpa[If,Jw] using l
def Bgg(k:Cz)(M:Br)(X:List Rw)(o:Bz)(lv sv:TX)(r:List (Bz×Value×Value))(c:Int)(w:TW)(N:k.f.ok k.w0)(h:Bm k M X w)(v:M.os=(o,lv,sv)::r)(O:r.length<=1000)(Q:o.st.length<=1000)(V:o.m<k.f.ms.length)(Y:(o.st.length:Int)<k.f.ms[o.m].1.m.stack)(Z:M.ts.length<=1000)(a3:M.made<=1000):Calls prog 151 #[.q k.B 0,.i c] w fun e b=>e=.r (.tuple #[])/\∃ta tc l,Bm k ((M.thing c ta tc).put ((⟨o.m,o.p,o.lo,o.st++[(2,(M.ts.length:Int))]⟩,lv,l)::r)) X b:=by
 obtain⟨i0,hi,a0,a1,a2⟩:=Bsa Tryz.infoThing;have c8:=h.cell (j:=8) Ls;have z:=h.hrow;have a4:=h.low.size;have A:=Bc (fun (b w9:TW) ta tc (hb:Bl w b) ho hk g=>Bll (c:=c) (w9:=w9) (ta:=ta) (tc:=tc) (h.below hb) ho hk g);have D:=Bc (fun ta tc (b:TW) (F:Bm k (M.thing c ta tc) X b)=>Bto (show b.C k.B 8 (.s ta (M.ts.length+1) tc) from F.cell (by unfold Br.thing Br.cells;simp)) (Ja k (M.thing c ta tc) X o lv sv r 2 (M.ts.length:Int) b N F v V Y O Q));have a5:IntKind.i64.wrap ((M.made:Int)+1)=(M.made:Int)+1:=Cx _ Ck Ck;have a6:=Oo M.ts.length Z;clear h v;generalize M.ts.length=L at *;generalize M.made=md at *;go_in;go_wp2_with (at_builtin;refine Btl _ rfl _ _ 113 rfl k.w0.heap.size 118 i0 _ 3 40 Bvw hi a0 a1 a2 rfl Fm _ _ _ rfl (z.alloc _) ⟨w.heap.size,0,none⟩ 1 1 [.i c,.bool false,.s none 0 0] rfl rfl ?c1 ?c2 ?c3 ?c4 ?c5 ?_)
 case c1=>exact Dh _ _ _ _ rfl
 case c2=>intro u G;simp at G;rcases G with rfl|rfl|rfl<;>rfl
 case c3=>unfold maxLen;omega
 case c4=>omega
 case c5=>simp;omega
 intro v' w2 t I _ g;obtain⟨ta,tc,rfl⟩:=Bh t;obtain⟨e1,e2,e3,e4,J⟩:=Ba A _ _ _ _ (QN _) t I (by simpa using g);obtain⟨d8,K⟩:=Ba D _ _ _ J;have HQ:=Bc K;clear A D t I g J K z c8;go_wp2_with fail;refine Qm (Ba HQ) ?_;rintro w3 ⟨l,h4⟩;go_wp2;go_end0;exact⟨rfl,ta,tc,l,h4⟩
def Bbp{α:Type}(f:α->TV)(z:Nat)(b:∀x,(f x).length=z)(l:List α)(n:Nat)(c:n<l.length)(j:Nat)(g:j<z)(u:TX){x':α}(e:(f l[n]).set j u=f x'):(l.flatMap f).set (n*z+j) u=(l.set n x').flatMap f:=by
 induction l generalizing n with
 | nil=>simp at c
 | cons x r ih =>
  cases n with
  | zero =>
   rw[Bsz,Bvs,Bsz,Bsm,Brz,Buf _ _ (by rw[b];exact g)];rw[show (f x).set j u=f x' from e]
  | succ m =>
   rw[Bsz,Bsp,Bsz,Bs9 _ _ (by rw[b,Bvd];omega),b,show (m+1)*z+j-z=m*z+j by rw[Bvd];omega,ih m (by simpa using c) e]
def Bmi{v w:TW}{a b c d:Rw}{f g i X:List Rw}{j e y:Rw}(h:Own v (a::b::c::d::(f++(g++j::i)++y::e::X)) w):Own v (a::b::c::d::(f++(g++e::i)++X)) w:=by
 have l:Own v (a::b::c::d::(f++(g++i)++e::X)) w:=Own.sub h (by
  refine Btd _ (Btd _ (Btd _ (Btd _ ?_)));exact Buz (Buz (Bv3 _) (Buz (Bv3 _) (Btc _ _))) (Btc _ _))
 refine Own.perm l (Bvq _ (Bvq _ (Bvq _ (Bvq _ ?_))));refine List.perm_middle.trans ?_;rw[show f++(g++e::i)++X=(f++g)++e::(i++X) by simp,show f++(g++i)++X=(f++g)++(i++X) by simp];exact List.perm_middle.symm
def Br.withTs(M:Br)(ts:List (Dj × Value)):Br:=⟨M.os,ts,M.made,M.read,M.out,M.steps,M.status,M.value,M.oa,M.oc,M.ta,M.tc,M.xa,M.xc⟩
def Bob{k:Cz}{M:Br}{X:List Rw}{w:TW}{u n:Nat}{c:Int}{l v:TX}{q e:TP}{y:Rw}(h:Bm k M (y::Da v e::X) w)(A:M.ta=some ⟨u,0,none⟩)(f:n<M.ts.length)(t:M.ts[n]=(⟨c,false,q⟩,l)):(w.setCell (.a u (n*3+1)) (.bool true)).C k.B 8 (.s (.p u) M.ts.length M.tc)/\(w.setCell (.a u (n*3+1)) (.bool true)).C u (n*3+2) l/\(w.setCell (.a u (n*3+1)) (.bool true)).frozen? (.a u (n*3+2))=false/\Bm k (M.withTs (M.ts.set n (⟨c,true,e⟩,v))) X ((w.setCell (.a u (n*3+1)) (.bool true)).setCell (.a u (n*3+2)) v):=by
 obtain⟨D,b,F,G,I,J,K,L,N,O,ta,Q,V,Y⟩:=M;simp only at A f t;subst A;have e1:=Bbp If 3 (fun _=>rfl) b n f 1 Ck (.bool true) (x':=(⟨c,true,q⟩,l)) (by rw[t];rfl);have m:=Own.cellE (i:=2) h Ls e1;have Z:=Bbp If 3 (fun _=>rfl) (b.set n (⟨c,true,q⟩,l)) n (by simpa using f) 2 Ck v (x':=(⟨c,true,e⟩,v)) (by rw[Bww];rfl);rw[List.set_set]at Z;have z:=Own.cellE (i:=2) m Ls Z;refine⟨Own.see (i:=0) (j:=8) m Ls Ls,Own.see (i:=2) (j:=n*3+2) m Ls ?_,Own.free (i:=2) m Ls _,?_⟩
 ·rw[Nk If 3 (fun _=>rfl) _ n (by simpa using f) 2 Ck,Bww];rfl
 have e3:b.map Jw=(b.take n).map Jw++Da l q::(b.drop (n+1)).map Jw:=by
  conv=>lhs;rw[<- Bua n b,Brj f,t]
  simp[Jw]
 have e4:(b.set n (⟨c,true,e⟩,v)).map Jw=(b.take n).map Jw++Da v e::(b.drop (n+1)).map Jw:=by
  rw[Bu8,Th f];simp[Jw]
 have e5:Br.cells k ⟨D,b.set n (⟨c,true,e⟩,v),F,G,I,J,K,L,N,O,some ⟨u,0,none⟩,Q,V,Y⟩=Br.cells k ⟨D,b,F,G,I,J,K,L,N,O,some ⟨u,0,none⟩,Q,V,Y⟩:=by unfold Br.cells;simp
 unfold Bm Br.withTs Br.rows;unfold Br.rows at z;simp only[e4,e5,Bsl];simp only[e3]at z;exact Bmi z
def Blm(k:Cz)(M:Br)(X:List Rw)(o:Bz)(lv sv:TX)(r:List (Bz×Value×Value))(c n:Nat)(s t a3:TP)(J:TX)(w:TW)(hf:k.f.ok k.w0)(h:Bm k M X w)(hM:M.os=(o,lv,sv)::r)(hr:r.length<=1000)(K:o.st.length<=1000) (N:o.st=s++(2,(n:Int))::t)(hc:c<k.f.l.length)(a4:Hh k.f.T (M.ts.map Prod.fst) t (Rf.all (Ct k.f.l) (k.f.l.map Prod.fst) c)=true)(a5:∀v∈t,v.1=2->0<=v.2/\v.2<(M.ts.length:Int))(h0:0<n)(z:n<M.ts.length)(O:M.ts[n]=(⟨(c:Int),false,a3⟩,J))(b5:M.ts.length<=1000):Calls prog 152 #[.q k.B 0,.i (c:Int)] w fun e A=>e=.r (.tuple #[])/\∃b0 v,Bm k ((M.withTs (M.ts.set n (⟨(c:Int),true,t⟩,v))).put ((⟨o.m,o.p,o.lo,s⟩,lv,b0)::r)) X A:=by
 have D:=h.fok hf;have hA:=Yq k.f.a1 k.f.a2 k.f.c1 k.f.ms.length k.f.c2 k.f.bb k.f.l c w D.1 hc D.2.2.2.1 D.2.2.2.2.1;have c0:w.C k.B 0 (.s k.f.a1 k.f.l.length k.f.c1):=h.cell Ls;have c1:w.C k.B 1 (.s k.f.a2 k.f.ms.length k.f.c2):=h.cell Ls;generalize Rf.all (Ct k.f.l) (k.f.l.map Prod.fst) c=Q at *;have HT:=Bc (fun (A:TW) V Y (hb:Bl w A) (F:TyR A (.s V Q.length Y) Q)=>Za k M X o lv sv r (s++[(2,(n:Int))]) t Q V Y A hf (h.below hb) hM (by rw[N];simp) hr K F a4 a5);have b1:(s++[(2,(n:Int))]).length<=1000:=by rw[N]at K;simp at K ⊢;omega
 have HA:=Bc hA;clear h hA D a4 a5 hM N;go_in;go_wp2_with fail;refine(Ba HA).mono ?_;rintro e w1 ⟨V,Y,rfl,F,a6⟩;have hT:=Ba HT _ _ _ a6 (TyR.of_tys F);have a7:=Bc hT;clear HT HA F a6 c0 c1 hT;go_wp2_with fail;refine(Ba a7).mono ?_;rintro e w2 ⟨va,vc,b2,rfl,h2⟩;have hO:=Ps k _ _ ⟨o.m,o.p,o.lo,s++[(2,(n:Int))]⟩ lv b2 r s [(2,(n:Int))] w2 h2 rfl rfl hr b1;have HO:=Bc hO;clear a7 h2 hO;go_wp2_with fail;refine(Ba HO).mono ?_;rintro e G ⟨oa,oc,b3,rfl,b,-⟩;have b6:=b.cell (j:=15) Ls;obtain⟨go,rfl,_,x0,x1⟩:=Nu b rfl (q:=0) Hd;obtain⟨g,Z,b7,a0,a8⟩:=Pc b (n:=n) z;have I:(M.ts[n]'z)=(⟨(c:Int),false,a3⟩,J):=O;have c8:G.C k.B 8 (.s M.ta M.ts.length M.tc):=b.cell Ls;have a9:M.ta=some ⟨g,0,none⟩:=Z;rw[a9]at c8;have t0:G.C g (n*3) (.i (c:Int)):=a0 0 _ (by show (If M.ts[n])[0]?=_;rw[I];rfl);have t1:G.C g (n*3+1) (.bool false):=a0 1 _ (by show (If M.ts[n])[1]?=_;rw[I];rfl);have f1:=a8 (n*3+1);obtain⟨d8,d2,df,h4⟩:=Bob b Z z O;have b4:∃a m c,J=.s a m c:=by
  have:=Bh (Nv b (n:=n) z);obtain⟨a,c',e⟩:=this;have e':(M.ts[n]'z).2=.s a _ c':=e;rw[I]at e';exact⟨a,_,c',e'⟩
 obtain⟨b8,b9,c3,rfl⟩:=b4;have H4:=Bc h4;have c4:(G.setCell (.a g (n*3+1)) (.bool true)).C k.B 8 (.s (.p g) M.ts.length M.tc):=d8;have k0:(n:Int)<(M.ts.length:Int):=Ck;have k1:¬(n:Int)<1:=Ck;clear b h4 a0 a8 Z a9 O I HO d8;simp only[Btn,Bsm,Brz]at x0 x1;generalize M.ts.length=L at *;go_wp2;go_end0;exact⟨rfl,b3,_,Ba H4⟩
def Bjb{w:TW}(ty:TypeId){u b dCap O m c:Nat}{g:TA}{G:Array Value}{a:TP}(h:w.heap[u]?=some (.cells G 240 (0,0)))(C:G.size=b*2)(i:m=a.length)(D:m<=b) (j:w.ownsRow O 240 2 (.s g m c) m (Bp a)):(Builtin.copy_ #[116,116] ty #[.s (.p u) b dCap,.s g m c]).run prog w=.ok (goInt m) (w.setRow u (Bp a++G.toList.drop (m*2)).toArray):=by
 obtain⟨F,l,I,q,J⟩:=Bsa Tryz.infoVal;have t:=Bu5;have f:(Bp a).length=m*2:=by rw[Jm,i]
 have z:min m b=m:=Ck;have A:=run_storeCells_at prog u 0 240 (Bp a) 0 G w h (by rw[f];omega) (Sg a);rcases j.2 with ⟨e,K⟩|⟨B,L,N,e,_,Q,_,_,_,V⟩
 ·simp only[Value.slice.injEq]at e;obtain⟨rfl,rfl,rfl⟩:=e;obtain rfl:=Bso i.symm;simp[Builtin.copy_,run_underlying t,Builtin.lenOf,Builtin.firstCells,sizeOf,typeInfo,l,q,storeCells,Bp,setRow_self w u G _ (0,0) h]
 simp only[Value.slice.injEq]at e;obtain⟨rfl,-,rfl⟩:=e;have v:=run_loadCells_list (P:=prog) w ⟨B,0,none⟩ (Bp a) (World.ownsRow.cells j rfl);rw[f]at v;simp[Builtin.copy_,run_underlying t,Builtin.lenOf,Builtin.firstCells,sizeOf,typeInfo,l,q,z,v,A,f]
def Blk{w:TW}{e:Array Oper}{f:List Oper}{o:Oper}{a:Act}{Q:Exit->Act->TW->Prop}(j:o.guard=none)(d s:Operand)(t:o.op=.call { callee:=.builtin .copy,args:=#[d,s],argTypes:=#[116,116] }) {u b dCap O m c:Nat}{g:TA}(v:a.eval d=.s (.p u) b dCap)(z:a.eval s=.s g m c){G:Array Value}{q:TP}(A:w.heap[u]?=some (.cells G 240 (0,0)))(B:G.size=b*2)(C:m=q.length)(D:m<=b)(F:w.ownsRow O 240 2 (.s g m c) m (Bp q)) (h:∀i,Hid (i=w.setRow u (Bp q++G.toList.drop (m*2)).toArray)->wpList prog e Q f (a.put o.dst (goInt m)) i):wpList prog e Q (o::f) a w:=by
 refine wpList_plain j fun K I=>?_;have J:=Bjb o.type A B C D F (dCap:=dCap);unfold Oper.wp;simp[execOp,t,resolve,invoke,builtin,v,z,J,Result.andThen];exact I _ _ (h _ (Bc rfl))
def Bmz(n:Nat):(madeCells #[Value.int .i64 0,.i 0] (n*2)).toList=Bp (List.replicate n (0,0)):=by
 apply Bv1;intro j;by_cases b:j<n*2
 ·obtain⟨c,e,_⟩:=Fu (List.replicate n ((0:Int),(0:Int))) (j/2) Fr;rcases Nat.mod_two_eq_zero_or_one j with h|h
  ·rw[show j/2*2=j by omega]at c;rw[c];simp[madeCells,b,h]
  rw[show j/2*2+1=j by omega]at e;rw[e];simp[madeCells,b,h]
 rw[Bs3 (by simp[madeCells];omega),Bs3 (by rw[Jm];simp;omega)]
def Tryz.infoOpen:(prog.info? 171).map (fun i=>(i.zero,i.size,i.bytes))=some (some (.agg #[.i 0,.i 0,.s none 0 0,.s none 0 0]),4,64):=Lt
def Br.open(M:Br)(x:Bz × Value × Value)(oa:TA)(oc:Nat):Br:=⟨x::M.os,M.ts,M.made,M.read,M.out,M.steps,M.status,M.value,oa,oc,M.ta,M.tc,M.xa,M.xc⟩
def Bn9{k:Cz}{M:Br}{X:List Rw}{w w9:TW}{n:Nat}{q:TP}{lv:TX}{oa:TA}{oc:Nat}(h:Own k.w0 (Da lv q::(M.rows k++X)) w)(m:w9.ownsRow k.w0.heap.size 171 4 (.s oa (M.os.length+1) oc) (M.os.length+1) (M.os.reverse.flatMap Fe++[.i (n:Int),.i 0,lv,.s none 0 0])) (p:w.grownBy w9 (Value.slice M.oa M.os.length M.oc).ownBlock)(t:(Value.slice oa (M.os.length+1) oc).ownBlock=(Value.slice M.oa M.os.length M.oc).ownBlock\/(Value.slice oa (M.os.length+1) oc).ownBlock=some w.heap.size):w9.C k.B 7 (.s M.oa M.os.length M.oc)/\w9.frozen? (.a k.B 7)=false/\Bm k (M.open (⟨n,0,q,[]⟩,lv,.s none 0 0) oa oc) X (w9.setCell (.a k.B 7) (.s oa (M.os.length+1) oc)):=by
 obtain⟨g,F,G,I,J,K,L,N,O,Q,V,Y,Z,xc⟩:=M;simp only at m p t h ⊢;have l:=Own.app (i:=2) h Ls m p t;have z:=Own.cell (i:=1) l Ls 7 (.s oa (g.length+1) oc);have v:=Own.add_nil z 240 2;refine⟨Own.see (i:=1) (j:=7) l Ls Ls,Own.free (i:=1) l Ls 7,?_⟩;unfold Bm Br.open Br.rows;unfold Br.rows at v;simp only[Bsz,J3,Da,Btp,Bst,Bwd,Btg,Br7];have A:∀{a b c d e f:Rw}{R:List Rw},Own k.w0 (a::b::c::d::e::f::R) (w9.setCell (.a k.B 7) (.s oa (g.length+1) oc))->Own k.w0 (c::d::e::f::b::a::R) (w9.setCell (.a k.B 7) (.s oa (g.length+1) oc)):=fun {a b c d e f R} D=>D.perm (by
  refine(List.Perm.swap b a _).trans ?_;exact(List.perm_append_comm_assoc [b,a] [c,d,e,f] R))
 exact A v
theorem Wg(k:Cz)(M:Br)(X:List Rw)(n b:Nat)(a:List (Int×Int))(s:Option Addr)(vc:Nat)(w:World)(hf:k.f.ok k.w0)(h:Bm k M (Da (.slice s a.length vc) a::X) w)(N:n<k.f.ms.length)(O:k.f.ms[n].1.m.locals=(b:Int))(b3:a.length<=b)(d0:b<=1000)(d1:M.os.length<=1000):Calls prog 61 #[.pointer (some ⟨k.B,0,none⟩),.int .i64 (n:Int),.slice s a.length vc] w fun e C=>e=.returned (.tuple #[])/\∃lv oa oc,Bm k (M.open (⟨n,0,a++List.replicate (b-a.length) (0,0),[]⟩,lv,.slice none 0 0) oa oc) (Da (.slice s a.length vc) a::X) C:=by
 obtain⟨i0,hi,b4,b5,b6⟩:=Bsa Tryz.infoVal;obtain⟨i1,ji,b7,b8,b9⟩:=Bsa Tryz.infoOpen;obtain⟨m,g,Q,d2,V,Y⟩:=RFl.mth (h.fok hf) N;have Z:m.lo=(b:Int):=by rw[Y.lo,O]
 have c1:w.cell? ⟨k.B,1,none⟩=some (.slice (some ⟨g,0,none⟩) k.f.ms.length k.f.c2):=by rw[<- Q];exact h.cell Ls
 have c7:w.cell? ⟨k.B,7,none⟩=some (.slice M.oa M.os.length M.oc):=h.cell Ls;have lB:=h.ltB;have d3:=h.low.size;obtain⟨cl,nm,pa,pl,pc,r1,r2,d4,st,c0,ha,hl,hc,ma,ml,mc,c6,c8⟩:=m;simp only at Z;subst Z;obtain⟨y0,y1,y2,y3,y4,y5,y6,y7,y8,y9,ya,yb⟩:=Oe V;simp only at y0 y1 y2 y3 y4 y5 y6 y7 y8 y9 ya yb;have ni:(n:Int)<(k.f.ms.length:Int):=Ck;have D:=Bc h;clear V Y Q h O N;go_in;go_wp2_with (refine wpList_make_full _ rfl _ _ 116 rfl k.w0.heap.size 240 i0 _ 2 Bu5 hi b4 b5 .i64 .i64 _ _ b rfl rfl ?c1 ?c2 ?c3 ?c4 ?c5 ?_)
 case c1=>rfl
 case c2=>rfl
 case c3=>rw[b6];omega
 case c4=>unfold maxLen;omega
 case c5=>simp;omega
 intro i a0 q;have a1:Below w.heap.size w (w.alloc (O12 cl nm pa pl pc r1 r2 (b:Int) st c0 ha hl hc ma ml mc c6 c8)):=QN _;have l:Below w.heap.size w i:=a1.trans ⟨q.os,q.tape,q.output,q.size,fun j hj=>q.block j Fr Hd⟩;obtain⟨c,a2,a3,a4⟩:∃c:Array Value,i.heap[w.heap.size+1]?=some (.cells c 240 (0,0))/\c.size=b*2/\c.toList=(madeCells #[.int .i64 0,.int .i64 0] (b*2)).toList:=by
  obtain⟨q1,⟨q2,_⟩|⟨g',d5,c,q3,_,q5,_,_,q8,q9⟩⟩:=a0
  ·simp at q2
  simp only[Value.slice.injEq,Option.some.injEq,Addr.mk.injEq,Br8,Buw]at q3;obtain⟨rfl,rfl⟩:=q3;exact⟨c,q5,q8,by rw[<- q9,Bs7 Fr]⟩
 have a5:i.ownsRow k.w0.heap.size 240 2 (.slice s a.length vc) a.length (Bp a):=((Ba D).below l).row (Da (.slice s a.length vc) a) Hd;have a6:=Bc l;have v:=Bc (Bto a4 a2);have a7:=Bc a3;have a8:=Bc a5;have d7:=(l.cell (p:=⟨k.B,7,none⟩) lB).trans c7;clear a0 q a1 l a4 a5 y0 y1 y2 y3 y4 y5 y6 y7 y8 y9 ya yb c1 c7 a2 a3;go_wp2_with (refine Blk rfl _ _ rfl rfl rfl (Ba v).2 (Ba a7) rfl b3 (Ba a8) ?_)
 intro w2 a9;have b0:=Ba a9;clear a9;have z:=Ba D;have l:=Ba a6;have t:Below w.heap.size w (i.setRow (w.heap.size+1) (Bp a++c.toList.drop (a.length*2)).toArray):=below_setRow l Ck _;have b1:(i.setRow (w.heap.size+1) (Bp a++c.toList.drop (a.length*2)).toArray).ownsRow w.heap.size 240 2 (.slice (some ⟨w.heap.size+1,0,none⟩) b b) b (Bp (a++List.replicate (b-a.length) (0,0))):=by
  have e:Bp a++c.toList.drop (a.length*2)=Bp (a++List.replicate (b-a.length) (0,0)):=by
   rw[(Ba v).1,Bmz,<- Xl,List.drop_replicate,Ib]
  rw[e];have F:(Bp (a++List.replicate (b-a.length) (0,0))).length=b*2:=by rw[Jm];simp;omega
  exact⟨F,.inr ⟨w.heap.size+1,b,_,rfl,Ck,Bw6 i _ _ _ _ _ (Ba v).2,Bru _,Pf,by simpa using F,by rw[Bs7 (by rw[F];exact Bru _)]⟩⟩
 have G:=Own.add_new (r:=Da (.slice (some ⟨w.heap.size+1,0,none⟩) (a++List.replicate (b-a.length) (0,0)).length b) (a++List.replicate (b-a.length) (0,0))) z t (by
  have e3:(a++List.replicate (b-a.length) ((0:Int),(0:Int))).length=b:=Fr;unfold Da;rw[e3];exact b1)
 rw[show (a++List.replicate (b-a.length) ((0:Int),(0:Int))).length=b by simp;omega]at G;have e7:(i.setRow (w.heap.size+1) (Bp a++c.toList.drop (a.length*2)).toArray).cell? ⟨k.B,7,none⟩=some (.slice M.oa M.os.length M.oc):=(z.below t).cell Ls;have I:=(z.below t).orow;have c9:=t.size;have J:=Bc (fun (C w9:World) oa oc (hb:Below _ _ C) ho hk A=>Bn9 (n:=n) (w9:=w9) (oa:=oa) (oc:=oc) (G.below hb) ho hk A);clear D a6 v a7 a8 z l b1 G t d7;rw[<- b0]at e7 I c9 J;clear b0;generalize hL:M.os.length=L at *;go_wp2_with (at_builtin;refine Btl _ rfl _ _ 112 rfl k.w0.heap.size 171 i1 _ 4 64 underlying112 ji b7 b8 b9 rfl Fm _ _ _ rfl (I.alloc _) ⟨w2.heap.size,0,none⟩ 1 1 [.int .i64 (n:Int),.int .i64 0,.slice (some ⟨w.heap.size+1,0,none⟩) b b,.slice none 0 0] rfl rfl ?c1 ?c2 ?c3 ?c4 ?c5 ?_)
 case c1=>exact Dh _ _ _ _ rfl
 case c2=>intro u hu;simp at hu;rcases hu with rfl|rfl|rfl|rfl<;>rfl
 case c3=>unfold maxLen;omega
 case c4=>omega
 case c5=>simp;omega
 intro v' w3 K b2 _ A;obtain⟨oa,oc,rfl⟩:=Bh K;obtain⟨f7,f8,h3⟩:=Ba J _ _ _ _ (QN _) K b2 (by simpa using A);have H3:=Bc h3;clear J K b2 A h3 I e7;go_wp2;go_end0;exact⟨rfl,_,oa,oc,Ba H3⟩
abbrev Ov(v:Value)(l:List Rf.Fld):Rw:=⟨235,4,v,l.length,Lk l⟩
theorem Biw{k:Cz}{M e:Br}{X:List Rw}{w:World}{u b t O yc n c q:Nat}{F:List Rf.Fld}(h:Bm k e (Ov (.slice (some ⟨u,0,none⟩) F.length b) F::X) w)(f:e.ts=M.ts)(g:e.ta=M.ta)(j:e.tc=M.tc)(A:n<F.length)(l:c<M.ts.length)(m:M.ta=some ⟨t,0,none⟩)(p:M.ts[c].2=.slice (some ⟨O,0,none⟩) M.ts[c].1.vals.length yc)(C:q<M.ts[c].1.vals.length):w.cell? ⟨u,n*4+1,none⟩=some (.int .i64 F[n].slot)/\w.cell? ⟨k.B,8,none⟩=some (.slice (some ⟨t,0,none⟩) M.ts.length M.tc)/\w.cell? ⟨t,c*3+2,none⟩=some (.slice (some ⟨O,0,none⟩) M.ts[c].1.vals.length yc)/\w.cell? ⟨O,q*2,none⟩=some (.int .i64 M.ts[c].1.vals[q].1)/\w.cell? ⟨O,q*2+1,none⟩=some (.int .i64 M.ts[c].1.vals[q].2):=by
 obtain⟨N,Q,V,Y,Z,a0,a1,a2,oa,oc,ta,tc,xa,xc⟩:=e;simp only at f g j;subst f g j;have D:=h.row (Ov (.slice (some ⟨u,0,none⟩) F.length b) F) Hd;obtain⟨a3,s,_,_,G⟩:=Cf D (by show 0<F.length;omega);simp only[Option.some.injEq,Addr.mk.injEq,Br8]at s;subst s;obtain⟨a4,I,_,J,_⟩:=Pc h l;have v:=m.symm.trans I;simp only[Option.some.injEq,Addr.mk.injEq,Br8]at v;subst v;obtain⟨f,g⟩:=Ez F n A 1 Ck;have i:=Nv h l;simp only at i;rw[p]at i;obtain⟨a5,z,_,K,L⟩:=Mo i C;simp only[Option.some.injEq,Addr.mk.injEq,Br8]at z;subst z;refine⟨(G _ g).trans f,?_,?_,K,L⟩
 ·rw[<- m];exact h.cell Ls
 rw[<- p];exact J 2 _ rfl
def Blq(k:Cz)(M:Br)(X:List Rw)(o:Bz)(lv sv:TX)(r:List (Bz×Value×Value))(n t q:Nat)(a:TP)(A:TA)(vc:Nat)(w:TW)(Z:k.f.ok k.w0)(h:Bm k M (Da (.s A a.length vc) a::X) w)(hM:M.os=(o,lv,sv)::r)(hr:r.length<=1000)(hs:o.st.length<=1000)(hm:o.m<k.f.ms.length)(hl:(o.st.length:Int)<k.f.ms[o.m].1.m.stack) (ha:0<a.length)(a0:a[0].2=(t:Int))(g:t<M.ts.length)(hn:n<k.f.fields.length)(hq:k.f.fields[n].slot=(q:Int))(D:q<M.ts[t].1.vals.length):Calls prog 203 #[.q k.B 0,.i 17,.i (n:Int),.s A a.length vc] w fun e b=>e=.r (.tuple #[])/\∃a4,Bm k (M.put ((⟨o.m,o.p,o.lo,o.st++[M.ts[t].1.vals[q]]⟩,lv,a4)::r)) (Da (.s A a.length vc) a::X) b:=by
 have c:=h.fok Z;have hF:=N6 k.f.a1 k.f.a2 k.f.c1 k.f.ms.length k.f.c2 k.f.bb k.f.l w c.1 c.2.1 c.2.2.2.1 c.2.2.2.2.1;have eF:Rf.fieldsTo (Ct k.f.l) (k.f.l.map Prod.fst) (k.f.l.length-7)=k.f.fields:=rfl;rw[eF]at hF;have c0:w.C k.B 0 (.s k.f.a1 k.f.l.length k.f.c1):=h.cell Ls;have c1:w.C k.B 1 (.s k.f.a2 k.f.ms.length k.f.c2):=h.cell Ls;generalize k.f.fields=F at *;obtain⟨ga,rfl,a5,-,G⟩:=Nu h rfl ha;rw[a0,Bsm,Brz]at G;obtain⟨ya,yc,I⟩:=Bh (Nv h g);obtain⟨J,a6,_,_,_⟩:=Mo (by have:=Nv h g;rw[I]at this;exact this) D;subst a6;obtain⟨gt,a3,_,_,_⟩:=Pc h g;have j:=Bc (fun (M1:Br) K fc (Y:List Rw) (b:TW) (L:Bm k M1 (Ov (.s (.p K) F.length fc) F::Y) b) e1 e2 e3=>Biw (M:=M) L e1 e2 e3 hn g a3 I D);have HA:=Bc (fun (b:TW) (v:TX) (hb:Bl w b) (ho:b.ownsRow w.heap.size 235 4 v F.length (Lk F))=>Own.mid (Own.add_new (r:=Ov v F) h hb ho));have HP:=Bc (fun (Y:List Rw) (b:TW) (L:Bm k M Y b)=>Ja k M Y o lv sv r M.ts[t].1.vals[q].1 M.ts[t].1.vals[q].2 b Z L hM hm hl hr hs);have a9:(n:Int)<(F.length:Int):=Ck;have b0:(t:Int)<(M.ts.length:Int):=Ck;have b1:(q:Int)<(M.ts[t].1.vals.length:Int):=Ck;rw[hq]at j;have HF:=Bc hF;have a7:0<F.length:=Ck;generalize M.ts[t].1.vals[q]=z at *;clear hF c eF h a3 a0 hm hl hr hs hn hq hM;generalize M.ts[t].1.vals.length=yn at *;clear I;clear D;obtain⟨z1,z2⟩:=z;go_in;go_wp2_with fail;refine(Ba HF).mono ?_;rintro e w1 ⟨fa,fc,rfl,N,O⟩;obtain⟨K,rfl,-⟩:=Cf N a7;have Q:=Ba HA _ _ O N;have x2:=(O.cell (p:=.a ga 1) a5).trans G;obtain⟨s1,s2,s3,s4,s5⟩:=Ba j _ _ _ _ _ Q rfl rfl rfl;have HC:=Bc (Ba HP _ _ (Own.drew Q));clear HF HA HP N O G c0 c1 Q;go_wp2_with fail
 go_region_held3 (fun b=>b.C K (n*4+1) (.i (q:Int))/\b.C k.B 8 (.s (.p gt) M.ts.length M.tc)/\b.C gt (t*3+2) (.s (.p J) yn yc)/\b.C J (q*2) (.i z1)/\b.C J (q*2+1) (.i z2))
  (first|exact⟨s1,s2,s3,s4,s5⟩|exact Ba j _ _ _ _ _ V rfl rfl rfl)
  (first|(go_at_call 147;refine(Ba HC).mono ?_;rintro e w7 ⟨rfl,a8,V⟩))
 clear s1 s2 s3 s4 s5 HC j;have H7:=Bc (Own.unmid V);clear V;go_wp2;go_end0;exact⟨rfl,a8,Own.sub (Ba H7) (Btc _ _)⟩
def Tg{α β:Type}(f:α->List β):∀(l:List α) (n:Nat) (b:n<l.length) (x:α),f x=f l[n]->(l.set n x).flatMap f=l.flatMap f
 | [],_,b,_,_=>by simp at b
 | y::r,0,_,x,h=>by simp at h;simp[h]
 | y::r,n+1,b,x,h=>by simp only[Bsp,Bsz];rw[Tg f r n (by simpa using b) x (by simpa using h)]
def Bln{k:Cz}{M:Br}{X:List Rw}{u:Nat}(b:u<M.ts.length):(M.rows k++X)[4+(M.os.flatMap J3).length+u]?=some (Jw M.ts[u]):=by
 unfold Br.rows;rw[show 4+(M.os.flatMap J3).length+u=((M.os.flatMap J3).length+u)+1+1+1+1 by omega];simp only[Bs5,Bsn];rw[Bsi,Br0 Ck,Btu,Br6 (by simpa using b),Bsf,Brl b];rfl
def Biq{k:Cz}{M:Br}{X:List Rw}{u:Nat}(b:u<M.ts.length)(l:TP):(M.rows k++X).set (4+(M.os.flatMap J3).length+u) (Da M.ts[u].2 l)=(M.withTs (M.ts.set u (⟨M.ts[u].1.cl,M.ts[u].1.set,l⟩,M.ts[u].2))).rows k++X:=by
 unfold Br.rows Br.withTs Br.cells;rw[show 4+(M.os.flatMap J3).length+u=((M.os.flatMap J3).length+u)+1+1+1+1 by omega];simp only[Bs5,Bsp,Bsl];rw[Tg If M.ts u b (⟨M.ts[u].1.cl,M.ts[u].1.set,l⟩,M.ts[u].2) rfl,Bsi,Bs9 _ _ Ck,Btu,Buf _ _ (by simpa using b),<- Bsi];simp[Jw]
def Bpr{k:Cz}{M:Br}{X:List Rw}{w:TW}{u b yc:Nat}(h:Bm k M X w)(c:u<M.ts.length)(e:M.ts[u].2=.s (.p b) M.ts[u].1.vals.length yc)(j:Nat):w.frozen? (.a b j)=false:=by
 have:=Nv h c;rw[e]at this;exact World.ownsRow.frozenAt this j
def Bn7{k:Cz}{M:Br}{X:List Rw}{w:TW}{u q t yc:Nat}(h:Bm k M X w)(g:u<M.ts.length)(j:M.ts[u].2=.s (.p t) M.ts[u].1.vals.length yc)(b c:Int):Bm k (M.withTs (M.ts.set u (⟨M.ts[u].1.cl,M.ts[u].1.set,M.ts[u].1.vals.set q (b,c)⟩,M.ts[u].2))) X ((w.setCell (.a t (q*2)) (.i b)).setCell (.a t (q*2+1)) (.i c)):=by
 have f:=Bln (k:=k) (X:=X) g;unfold Jw Da at f;rw[j]at f;have m:=Own.cell h f (q*2) (.i b);have l:=Own.cellE m (Bt8 (List.getElem?_eq_some_iff.1 f).1) (Vj M.ts[u].1.vals q b c).symm;rw[List.set_set]at l;have e:=Biq (k:=k) (X:=X) g (M.ts[u].1.vals.set q (b,c));unfold Bm;rw[<- e];unfold Da;rw[j,Bsl];exact l
theorem Bir{k:Cz}{M1:Br}{X:List Rw}{w:World}{u b gt n t c vc L tc:Nat}{F:List Rf.Fld}{y:Value}{a:List (Int×Int)}(h:Bm k M1 (Ov (.slice (some ⟨u,0,none⟩) F.length b) F::Da (.slice (some ⟨c,0,none⟩) a.length vc) a::X) w)(j:n<F.length)(l:1<a.length)(m:M1.ts.length=L)(e:M1.ta=some ⟨gt,0,none⟩)(p:M1.tc=tc)(q:t<M1.ts.length)(s:M1.ts[t].2=y):w.cell? ⟨u,n*4+1,none⟩=some (.int .i64 F[n].slot)/\w.cell? ⟨k.B,8,none⟩=some (.slice (some ⟨gt,0,none⟩) L tc)/\w.cell? ⟨gt,t*3+2,none⟩=some y/\w.cell? ⟨c,2,none⟩=some (.int .i64 a[1].1)/\w.cell? ⟨c,3,none⟩=some (.int .i64 a[1].2):=by
 have v:=h.row (Ov (.slice (some ⟨u,0,none⟩) F.length b) F) Hd;obtain⟨K,f,_,_,z⟩:=Cf v (by show 0<F.length;omega);simp only[Option.some.injEq,Addr.mk.injEq,Br8]at f;subst f;obtain⟨N,A,_,C,_⟩:=Pc h q;have g:=e.symm.trans A;simp only[Option.some.injEq,Addr.mk.injEq,Br8]at g;subst g;obtain⟨D,G⟩:=Ez F n j 1 Ck;obtain⟨O,i,_,I,J⟩:=Mo (h.row (Da (.slice (some ⟨c,0,none⟩) a.length vc) a) Hd) l;simp only[Option.some.injEq,Addr.mk.injEq,Br8]at i;subst i;refine⟨(z _ G).trans D,?_,?_,I,J⟩
 ·rw[<- m,<- e,<- p];exact h.cell Ls
 rw[<- s];exact C 2 _ rfl
def Blo(k:Cz)(M:Br)(X:List Rw)(n t q:Nat)(a:TP)(I:TA)(vc:Nat)(w:TW)(hf:k.f.ok k.w0)(h:Bm k M (Da (.s I a.length vc) a::X) w) (ha:1<a.length)(a0:a[0].2=(t:Int))(c:t<M.ts.length)(hn:n<k.f.fields.length)(hq:k.f.fields[n].slot=(q:Int))(J:q<M.ts[t].1.vals.length):Calls prog 203 #[.q k.B 0,.i 18,.i (n:Int),.s I a.length vc] w fun e b=>e=.r (.tuple #[])/\Bm k (M.withTs (M.ts.set t (⟨M.ts[t].1.cl,M.ts[t].1.set,M.ts[t].1.vals.set q a[1]⟩,M.ts[t].2))) (Da (.s I a.length vc) a::X) b:=by
 have m:=h.fok hf;have hF:=N6 k.f.a1 k.f.a2 k.f.c1 k.f.ms.length k.f.c2 k.f.bb k.f.l w m.1 m.2.1 m.2.2.2.1 m.2.2.2.2.1;have eF:Rf.fieldsTo (Ct k.f.l) (k.f.l.map Prod.fst) (k.f.l.length-7)=k.f.fields:=rfl;rw[eF]at hF;have c0:w.C k.B 0 (.s k.f.a1 k.f.l.length k.f.c1):=h.cell Ls;have c1:w.C k.B 1 (.s k.f.a2 k.f.ms.length k.f.c2):=h.cell Ls;generalize k.f.fields=F at *;obtain⟨A,rfl,a5,-,K⟩:=Nu h rfl (show 0<a.length by omega);rw[a0,Bsm,Brz]at K;obtain⟨ya,yc,g⟩:=Bh (Nv h c);obtain⟨gy,a6,-,-,-⟩:=Mo (by have:=Nv h c;rw[g]at this;exact this) J;subst a6;obtain⟨gt,a3,-,-,-⟩:=Pc h c;have D:=Bc (fun (M1:Br) N fc (Y:List Rw) (b:TW) (j:Bm k M1 (Ov (.s (.p N) F.length fc) F::Da (.s (.p A) a.length vc) a::Y) b) (e1:M1.ts.length=M.ts.length) (e2:M1.ta=some ⟨gt,0,none⟩) (e3:M1.tc=M.tc) (hl:t<M1.ts.length) (e4:M1.ts[t].2=M.ts[t].2)=>Bir (M1:=M1) (L:=M.ts.length) (tc:=M.tc) (t:=t) (gt:=gt) (y:=M.ts[t].2) j hn ha e1 e2 e3 hl e4);have HZ:=Bc (fun (Y:List Rw) (b:TW) (j:Bm k M Y b)=>Bto (Bpr j c g) (Mo (by have:=Nv j c;rw[g]at this;exact this) J));have HA:=Bc (fun (b:TW) (v:TX) (hb:Bl w b) (ho:b.ownsRow w.heap.size 235 4 v F.length (Lk F))=>Own.mid (Own.add_new (r:=Ov v F) h hb ho));have HP:=Bc (fun (Y:List Rw) (b:TW) (j:Bm k M Y b)=>Bn7 (q:=q) j c g a[1].1 a[1].2);have a8:(n:Int)<(F.length:Int):=Ck;have a9:(t:Int)<(M.ts.length:Int):=Ck;have b0:(q:Int)<(M.ts[t].1.vals.length:Int):=Ck;rw[hq,g]at D;have HF:=Bc hF;have a7:0<F.length:=Ck;have b1:0<a.length:=Ck;have b2:(1:Int)<(a.length:Int):=Ck;have O:=Bc a3;have Q:=Bc (fun (_:Unit)=>g);have HT:=Bc c;clear hF m eF h a0 a3 g;generalize a[1]=z at *;obtain⟨v1,v2⟩:=z;go_in;go_wp2_with fail;refine(Ba HF).mono ?_;rintro e w1 ⟨fa,fc,rfl,V,Z⟩;obtain⟨N,rfl,-⟩:=Cf V a7;have G:=Ba HA _ _ Z V;have x2:w1.C A 1 (.i (t:Int)):=QC Z a5 K;have s:=Ba D M _ _ _ _ G rfl (Ba O) rfl c (Ba Q ());obtain⟨s1,s2,s3,s4,s5⟩:=s;obtain⟨fz,b3,a4,_,z0,z1⟩:=Ba HZ _ _ G;simp only[Option.some.injEq,Addr.mk.injEq,Br8]at a4;subst a4;have h2:=Ba HP _ _ (Own.drew G);have p:=Ba D _ _ _ _ _ h2 (by simp[Br.withTs]) (Ba O) rfl (by simpa[Br.withTs] using c) (by simp[Br.withTs];exact Ba Q ());obtain⟨p1,p2,p3,p4,p5⟩:=p;have H2:=Bc (Own.sub (Own.unmid h2) (Btc _ _));clear HF HA HP D HZ O Q HT V Z K c0 c1 G h2;generalize M.ts[t].1.vals[q]=b4 at *;clear J hn hq;generalize M.ts[t].1.vals.length=yn at *;go_wp2_with fail
 go_region_held3 (fun b=>b.C N (n*4+1) (.i (q:Int))/\b.C k.B 8 (.s (.p gt) M.ts.length M.tc)/\b.C gt (t*3+2) (.s (.p gy) yn yc)/\b.C A 2 (.i v1)/\b.C A 3 (.i v2))
  (first|exact⟨s1,s2,s3,s4,s5⟩|exact⟨p1,p2,p3,p4,p5⟩)
  (fail)
 clear s1 s2 s3 s4 s5 p1 p2 p3 p4 p5 z0 z1;go_wp2;refine Wf (Btf rfl _ _ _) rfl ?_;exact⟨rfl,Ba H2⟩
def Bog(v:Int):-4294967296<v.tmod 4294967296/\v.tmod 4294967296<4294967296:=by
 have b:=Int.tmod_lt_of_pos v (show (0:Int)<4294967296 by decide);have c:=Int.lt_tmod_of_pos v (show (0:Int)<4294967296 by decide);exact⟨c,b⟩
def Ri(v:Int)(w:TW):Calls prog 254 #[.i v] w fun e f=>e=.r (.i (Jb v))/\f=w:=by
 obtain⟨h,j⟩:=Bog v;unfold Jb;have l:IntKind.i64.wrap (v.tmod 4294967296)=v.tmod 4294967296:=Cx _ Ck Ck;by_cases b:2147483647<v.tmod 4294967296;·rw[Th b];have g:IntKind.i64.wrap (v.tmod 4294967296-4294967296)=v.tmod 4294967296-4294967296:=Cx _ Ck Ck;go_in;go_wp2;go_ret;exact⟨rfl,rfl⟩
 rw[Pk b];by_cases c:v.tmod 4294967296 < -2147483648;·rw[Th c];have g:IntKind.i64.wrap (v.tmod 4294967296+4294967296)=v.tmod 4294967296+4294967296:=Cx _ Ck Ck;go_in;go_wp2;go_ret;exact⟨rfl,rfl⟩
 rw[Pk c];go_in;go_wp2;go_ret;exact⟨rfl,rfl⟩
def Bbx(op a b:Int)(w:TW)(p:-2147483648<=a/\a<=2147483647)(q:-2147483648<=b/\b<=2147483647):Calls prog 202 #[.i op,.i a,.i b] w fun e m=>e=.r (.i (Ip op a b))/\m=w:=by
 unfold Ip;have s:-4611686018427387904<=a*b/\a*b<=4611686018427387904:=by
  have f:a.natAbs*b.natAbs<=2147483648*2147483648:=Nat.mul_le_mul Ck Ck;rw[<- Int.natAbs_mul]at f;omega
 have t:-2147483648<=a.tdiv b/\a.tdiv b<=2147483648:=by
  have f:=Int.natAbs_tdiv_le_natAbs a b;omega
 have v:IntKind.i64.wrap (a+b)=a+b:=Cx _ Ck Ck;have A:IntKind.i64.wrap (a-b)=a-b:=Cx _ Ck Ck;have B:IntKind.i64.wrap (a*b)=a*b:=Cx _ Ck Ck;have C:IntKind.i64.wrap (a.tdiv b)=a.tdiv b:=Cx _ Ck Ck;by_cases f:op=7;·rw[Th f];subst f;have c:=Ri (a+b) w;generalize Jb (a+b)=z at *;go_in;go_wp2_with fail;refine Qm c ?_;rintro g rfl;go_wp2;go_ret;exact⟨rfl,rfl⟩
 rw[Pk f];by_cases h:op=8;·rw[Th h];subst h;have c:=Ri (a-b) w;generalize Jb (a-b)=z at *;go_in;go_wp2_with fail;refine Qm c ?_;rintro g rfl;go_wp2;go_ret;exact⟨rfl,rfl⟩
 rw[Pk h];by_cases j:op=9;·rw[Th j];subst j;have c:=Ri (a*b) w;generalize Jb (a*b)=z at *;go_in;go_wp2_with fail;refine Qm c ?_;rintro g rfl;go_wp2;go_ret;exact⟨rfl,rfl⟩
 rw[Pk j];by_cases l:b=0;·rw[Th l];subst l;go_in;go_wp2;go_ret;exact⟨rfl,rfl⟩
 rw[Pk l];have c:=Ri (a.tdiv b) w;generalize Jb (a.tdiv b)=z at *;go_in;go_wp2_with fail;refine Qm c ?_;rintro g rfl;go_wp2;go_ret;exact⟨rfl,rfl⟩
def Au{k:Cz}{M:Br}{X:List Rw}{w:TW}{x:Bz×Value×Value}{r:List (Bz×Value×Value)}(h:Bm k M X w)(c:M.os=x::r):Bm k (M.put r) X (w.setCell (.a k.B 7) (.s M.oa r.length M.oc)):=by
 obtain⟨l,m,p,q,t,v,z,A,f,g,C,D,F,G⟩:=M;simp only at c;subst c;have j:=Own.cut (i:=1) (n':=r.length) h Ls Hd;have e:((x::r).reverse.flatMap Fe).take (r.length*4)=r.reverse.flatMap Fe:=by
  rw[Btp,Bst,Buo (by rw[Oq];exact Bru _),Bs7 (by rw[Oq];exact Bru _)]
 have b:=Own.cell (i:=0) j Ls 7 (.s f r.length g);unfold Br.rows at b;simp only[e]at b;refine Own.sub b ?_;unfold Br.rows Br.put;refine Btd _ (Btd _ (Btd _ (Btd _ ?_)));simp only[Bsz,J3,Bs5,Btz];exact(Btc _ _).trans (Btc _ _)
def Bpw{k:Cz}{M:Br}{X:List Rw}{w:TW}(h:Bm k M X w):M.os.length<=M.oc:=by
 rcases h.orow.2 with ⟨b,c⟩|⟨g,e,f,b,_,_,i,_⟩
 ·omega
 simp only[Value.slice.injEq]at b;omega
def Br.fin(M:Br)(s v:Int):Br:=⟨M.os,M.ts,M.made,M.read,M.out,M.steps,s,v,M.oa,M.oc,M.ta,M.tc,M.xa,M.xc⟩
def Brf{k:Cz}{M:Br}{X:List Rw}{w:TW}(h:Bm k M X w)(s v:Int):Bm k (M.fin s v) X ((w.setCell (.a k.B 13) (.i s)).setCell (.a k.B 14) (.i v))/\(w.setCell (.a k.B 13) (.i s)).C k.B 14 (.i M.value):=by
 have b:=Own.cell (i:=0) h Ls 13 (.i s);have c:=Own.cell (i:=0) b Ls 14 (.i v);exact⟨c,Own.see (i:=0) (j:=14) b Ls Ls⟩
theorem vx1{k:Cz}{M:Br}{X:List Rw}{w:World}{u vc:Nat}{a:List (Int×Int)}(h:Bm k M (Da (.slice (some ⟨u,0,none⟩) a.length vc) a::X) w)(b:0<a.length):w.cell? ⟨u,1,none⟩=some (.int .i64 (Ce a).2):=by
 obtain⟨f,e,_,_,c⟩:=Nu h rfl (q:=0) b;simp only[Option.some.injEq,Addr.mk.injEq,Br8]at e;subst e;rw[Bsm,Brz]at c;rw[c];simp[Ce,Vm,b]
def Bgm(k:Cz)(M:Br)(X:List Rw)(x:Bz×Value×Value)(m:RMV)(a:TP)(A:TA)(vc:Nat)(w:TW)(h:Bm k M (Da (.s A a.length vc) a::X) w)(t:M.os=[x])(v:m.r1=1->0<a.length):Calls prog 149 #[.q k.B 0,m.val,.s A a.length vc] w fun e N=>e=.r (.tuple #[])/\Bm k ((M.put []).fin 0 (if m.r1=1 then (Ce a).2 else 0)) (Da (.s A a.length vc) a::X) N:=by
 obtain⟨Y,Z,pa,pl,pc,D,r2,lo,st,a0,ha,hl,hc,ma,ml,mc,a1,a2⟩:=m;simp only[RMV.val]at v ⊢;obtain⟨g,C,a3,F,-,-,-,-,-⟩:=Ir (o:=x.1) (lv:=x.2.1) (sv:=x.2.2) h t;have G:=h.ltB;have c:=Au h t;rw[C]at c;simp only[Bs2,Brz]at F c;obtain⟨f,O⟩:=Brf c 0 0;have b:=fun (u:TW) (z:Obj)=>(Brm u.heap.size u).alloc (Bru _) z;have d7:=fun z=>((b w z).cell (p:=.a k.B 7) G).trans F;have f7:=fun z=>((b w z).frozen (p:=.a k.B 7) G).trans (h.fz 7);have a4:=fun z=>(c.below (b _ z)).cell (j:=13) Ls;have a5:=fun z=>(c.below (b _ z)).fz 13;have I:=c.ltB;have a6:=fun z=>((b ((w.setCell (.a k.B 7) (.s (.p g) 0 M.oc)).setCell (.a k.B 13) (.i 0)) z).cell (p:=.a k.B 14) (by simpa using I)).trans O;have a7:=fun z=>((b ((w.setCell (.a k.B 7) (.s (.p g) 0 M.oc)).setCell (.a k.B 13) (.i 0)) z).frozen (p:=.a k.B 14) (by simpa using I)).trans ((World.frozen?_setCell _ _ _ _).trans (c.fz 14));have J:=Bc (fun z=>f.below (b _ z));by_cases l:D=1;·rw[Th l];have K:=v l;subst l;obtain⟨ga,rfl,_,-,-⟩:=Nu f rfl (q:=0) K;have x1:∀z,_:=fun z=>(vx1 (f.below (b _ z)) K);generalize (Ce a).2=Q at *;have L:=Own.cell (i:=0) f Ls 14 (.i Q);have V:=Bc (fun z=>Own.below L (b _ z));have l4:=f.ltB;have a8:=fun z=>(f.below (b _ z)).cell (j:=14) Ls;have a9:=fun z=>(f.below (b _ z)).fz 14;clear v h c f t C L J;go_in;go_wp2;refine Wf (Btf rfl _ _ _) rfl ?_;exact⟨rfl,Ba V _⟩
 rw[Pk l];have b0:(D==1)=false:=by simpa using l
 clear l v h c f t C;go_in;go_wp2;refine Wf (Btf rfl _ _ _) rfl ?_;exact⟨rfl,Ba J _⟩
def Sw{k:Cz}{M:Br}{X:List Rw}{w:TW}{o:Bz}{lv sv:TX}{r:List (Bz×Value×Value)}{u:Nat}(h:Bm k M X w)(b:M.os=(o,lv,sv)::r)(c:M.oa=some ⟨u,0,none⟩)(p:Nat):Bm k (M.put ((⟨o.m,p,o.lo,o.st⟩,lv,sv)::r)) X (w.setCell (.a u (r.length*4+1)) (.i (p:Int))):=by
 obtain⟨f,j,l,q,s,t,v,z,A,B,C,D,F,G⟩:=M;simp only at b c;subst b c;have e:=Own.cellE (i:=1) h Ls (Tv (o,lv,sv) (⟨o.m,p,o.lo,o.st⟩,lv,sv) r 1 (.i (p:Int)) rfl);exact e
theorem Biy(k:Cz)(M:Br)(X:List Rw)(x:Bz×Value×Value)(q:Bz)(lv sv:Value)(r:List (Bz×Value×Value))(m:RMV)(a:List (Int×Int))(va:Option Addr)(vc:Nat)(w:World)(hf:k.f.ok k.w0)(h:Bm k M (Da (.slice va a.length vc) a::X) w)(hM:M.os=x::(q,lv,sv)::r)(hal:a.length<=1)(hr:r.length<=1000)(hs:q.st.length<=900)(hm:q.m<k.f.ms.length)(hp:q.p<k.f.ms[q.m].1.m.code.length)(hcs:k.f.ms[q.m].1.m.code.length<=1000)(hls:((q.st.length+a.length:Nat):Int)<=k.f.ms[q.m].1.m.stack):Calls prog 149 #[.pointer (some ⟨k.B,0,none⟩),m.val,.slice va a.length vc] w fun e w'=>e=.returned (.tuple #[])/\∃sv',Bm k (M.put ((⟨q.m,q.p+Cd.wd (k.f.ms[q.m].1.m.code.getD q.p 0),q.lo,q.st++a⟩,lv,sv')::r)) (Da (.slice va a.length vc) a::X) w':=by
 obtain⟨cl,nm,pa,pl,pc,r1,r2,lo,st,code,ha,hl,hc,ma,ml,mc,mAt,fin⟩:=m;simp only[RMV.val];obtain⟨g,hg,hglt,c7,-,-,-,-,-⟩:=Ir (o:=x.1) (lv:=x.2.1) (sv:=x.2.2) h hM;have lB:=h.ltB;have h2:=Au h hM;rw[hg]at h2;have e2:((q,lv,sv)::r).length=r.length+1:=rfl;rw[e2]at c7 h2;obtain⟨la,lc,hlv⟩:∃a c,lv=.slice a q.lo.length c:=Bh (h2.lrow rfl);obtain⟨sa,sc,hsv⟩:∃a c,sv=.slice a q.st.length c:=Bh (h2.srow rfl);obtain⟨g',hg',hglt2,d7,d0,d1,d2,d3,dfz⟩:=Ir h2 rfl;have eg:=hg.symm.trans (show M.oa=_ from hg');simp only[Option.some.injEq,Addr.mk.injEq,Br8]at eg;subst eg;obtain⟨ym,fg,hfg,hflt,hcell,his⟩:=RFl.mth (h2.fok hf) hm;have hyc:Ca ym.code=k.f.ms[q.m].1.m.code:=his.code;have hN:=fun w'=>Lz ym q.p w' (by rw[<- He,hyc];exact hp) (by rw[<- He,hyc];omega);rw[hyc]at hN;have b1:(w.setCell ⟨k.B,7,none⟩ (.slice (some ⟨g,0,none⟩) (r.length+1) M.oc)).cell? ⟨k.B,1,none⟩=some (.slice (some ⟨fg,0,none⟩) k.f.ms.length k.f.c2):=by rw[<- hfg];exact h2.cell Ls
 have hgge:=((Bm.orow h).lt g (by rw[hg];rfl)).1;have hfgl:fg<k.w0.heap.size:=by
  obtain⟨ym2,fg2,hfg2,hflt2,_⟩:=RFl.mth hf hm;have:=hfg.symm.trans hfg2;simp only[Option.some.injEq,Addr.mk.injEq,Br8]at this;omega
 obtain⟨ycl,ynm,ypa,ypl,ypc,yr1,yr2,ylo,yst,ycode,yha,yhl,yhc,yma,yml,ymc,ymAt,yfin⟩:=ym;have hrow:=Oe hcell;simp only[RMV.val]at hrow hN;have hB2:=Bu (w.setCell ⟨k.B,7,none⟩ (.slice (some ⟨g,0,none⟩) (r.length+1) M.oc)) (O12 cl nm pa pl pc r1 r2 lo st code ha hl hc ma ml mc mAt fin) (.cells #[.int .i64 (q.m:Int),.int .i64 (q.p:Int),lv,sv] 171);have hgB:g≠k.B:=fun e=>by
  have h':=h.nd;unfold Br.rows at h';simp only[Bs5,Bvx]at h';exact h'.1 _ (Bsd ..) k.B rfl (by rw[hg,e];rfl)
 generalize Cd.wd (k.f.ms[q.m].1.m.code.getD q.p 0)=wd at *;subst hlv hsv;have HN:=Bc hN;obtain⟨u,hu⟩:∃u,u=w.setCell ⟨k.B,7,none⟩ (.slice (some ⟨g,0,none⟩) (r.length+1) M.oc):=⟨_,rfl⟩;rw[<- hu]at h2 d7 d0 d1 d2 d3 dfz b1 hrow hB2 hglt2 hflt;have ba:=fun (u':World) (z:Obj)=>(Brm u'.heap.size u').alloc (Bru _) z;have z7:=fun z=>((ba w z).cell (p:=⟨k.B,7,none⟩) lB).trans c7;have zf7:=fun z=>((ba w z).frozen (p:=⟨k.B,7,none⟩) lB).trans (h.fz 7);have l2:=h2.ltB;have s7:=fun z=>((ba _ z).cell (p:=⟨k.B,7,none⟩) l2).trans d7;have s0:=fun z=>((ba _ z).cell (p:=⟨g,r.length*4,none⟩) hglt2).trans d0;have s1:=fun z=>((ba _ z).cell (p:=⟨g,r.length*4+1,none⟩) hglt2).trans d1;have s2:=fun z=>((ba _ z).cell (p:=⟨g,r.length*4+2,none⟩) hglt2).trans d2;have s3:=fun z=>((ba _ z).cell (p:=⟨g,r.length*4+3,none⟩) hglt2).trans d3;have hw1:IntKind.i64.wrap (((r.length+1+1:Nat):Int)-1)=(r.length:Int)+1:=by rw[show ((r.length+1+1:Nat):Int)-1=(r.length:Int)+1 by omega];exact Cx _ Ck Ck
 have hw2:IntKind.i64.wrap ((r.length:Int)+1-1)=(r.length:Int):=by rw[show (r.length:Int)+1-1=(r.length:Int) by omega];exact Cx _ Ck Ck
 have ri:(r.length:Int)<(r.length:Int)+1:=Ck;have hw3:IntKind.i64.wrap (r.length:Int)=(r.length:Int):=Cx _ Ck Ck;have r0:(0:Int)<=(r.length:Int):=Ck;have hcap:r.length+1+1<=M.oc:=by have:=Bpw h;rw[hM]at this;exact this
 have hc1:¬M.oc<r.length+1:=Ck;have hc2:(r.length:Int)+1<=(M.oc:Int):=Ck;obtain⟨ob,hob⟩:∃ob,ob=w.heap.size+1:=⟨_,rfl⟩;have husz:u.heap.size=w.heap.size:=by rw[hu];simp
 have C:=Be (u.alloc (O12 cl nm pa pl pc r1 r2 lo st code ha hl hc ma ml mc mAt fin)) (O35 (q.m:Int) (q.p:Int) la q.lo.length lc sa q.st.length sc);have hobe:(u.alloc (O12 cl nm pa pl pc r1 r2 lo st code ha hl hc ma ml mc mAt fin)).heap.size=ob:=by rw[hob,<- husz];simp
 rw[hobe]at C;have hW:Bm k (M.put ((q,.slice la q.lo.length lc,.slice sa q.st.length sc)::r)) (Da (.slice va a.length vc) a::X) ((u.alloc (O12 cl nm pa pl pc r1 r2 lo st code ha hl hc ma ml mc mAt fin)).alloc (O35 (q.m:Int) (q.p:Int) la q.lo.length lc sa q.st.length sc)):=h2.below hB2;have lob:=Sp C;have hS0:∀w':World,w'.heap[k.B]?=u.heap[k.B]?->w'.heap[fg]?=u.heap[fg]?->w'.heap[ob]?=some ((O35 (q.m:Int) (q.p:Int) la q.lo.length lc sa q.st.length sc))->w'.cell? ⟨k.B,7,none⟩=some (.slice (some ⟨g,0,none⟩) (r.length+1) M.oc)/\w'.cell? ⟨k.B,1,none⟩=some (.slice (some ⟨fg,0,none⟩) k.f.ms.length k.f.c2)/\w'.cell? ⟨ob,0,none⟩=some (.int .i64 (q.m:Int))/\w'.cell? ⟨ob,1,none⟩=some (.int .i64 (q.p:Int))/\w'.cell? ⟨fg,q.m*12,none⟩=some (.int .i64 ycl)/\w'.cell? ⟨fg,q.m*12+1,none⟩=some (.int .i64 ynm)/\w'.cell? ⟨fg,q.m*12+2,none⟩=some (.slice ypa ypl ypc)/\w'.cell? ⟨fg,q.m*12+3,none⟩=some (.int .i64 yr1)/\w'.cell? ⟨fg,q.m*12+4,none⟩=some (.int .i64 yr2)/\w'.cell? ⟨fg,q.m*12+5,none⟩=some (.int .i64 ylo)/\w'.cell? ⟨fg,q.m*12+6,none⟩=some (.int .i64 yst)/\w'.cell? ⟨fg,q.m*12+7,none⟩=some (.string ycode)/\w'.cell? ⟨fg,q.m*12+8,none⟩=some (.slice yha yhl yhc)/\w'.cell? ⟨fg,q.m*12+9,none⟩=some (.slice yma yml ymc)/\w'.cell? ⟨fg,q.m*12+10,none⟩=some (.int .i64 ymAt)/\w'.cell? ⟨fg,q.m*12+11,none⟩=some (.int .i64 yfin):=fun w' e1 e2 e3=>by
  have q7:=(Brr (a:=⟨k.B,7,none⟩) e1).trans d7;have q1:=(Brr (a:=⟨k.B,1,none⟩) e1).trans b1;have qf:∀j,w'.cell? ⟨fg,j,none⟩=u.cell? ⟨fg,j,none⟩:=fun j=>Brr (a:=⟨fg,j,none⟩) e2;refine⟨q7,q1,(Bb e3 0).trans rfl,(Bb e3 1).trans rfl,?_⟩;simp only[qf];exact hrow
 have bB:=hB2.block k.B l2;have bf:=hB2.block fg hflt;have hgob:g≠ob:=Ck;have hgf:g≠fg:=Ck;have HW:=Bc hW;have HP:=Bc (fun (w':World) (hb:Below ((u.alloc (O12 cl nm pa pl pc r1 r2 lo st code ha hl hc ma ml mc mAt fin)).alloc (O35 (q.m:Int) (q.p:Int) la q.lo.length lc sa q.st.length sc)).heap.size ((u.alloc (O12 cl nm pa pl pc r1 r2 lo st code ha hl hc ma ml mc mAt fin)).alloc (O35 (q.m:Int) (q.p:Int) la q.lo.length lc sa q.st.length sc)) w')=>Sw (hW.below hb) rfl (show (M.put ((q,.slice la q.lo.length lc,.slice sa q.st.length sc)::r)).oa=some ⟨g,0,none⟩ from hg) (q.p+wd));have l2W:=Brs l2 hB2.size;have lfW:=Brs hflt hB2.size;have lgW:=Brs hglt2 hB2.size;have gfz:=fun j=>(hB2.frozen (p:=⟨g,j,none⟩) hglt2).trans (dfz j);have gc1:=(hB2.cell (p:=⟨g,r.length*4+1,none⟩) hglt2).trans d1;have mi:(q.m:Int)<(k.f.ms.length:Int):=Ck;rw[hu]at s7 s0 s1 s2 s3;subst hob;go_in;go_wp2;rw[<- hu];generalize hWW:(u.alloc (O12 cl nm pa pl pc r1 r2 lo st code ha hl hc ma ml mc mAt fin)).alloc (O35 (q.m:Int) (q.p:Int) la q.lo.length lc sa q.st.length sc)=W at *
 go_region_held3 (fun w'=>w'.cell? ⟨k.B,7,none⟩=some (.slice (some ⟨g,0,none⟩) (r.length+1) M.oc)/\w'.cell? ⟨k.B,1,none⟩=some (.slice (some ⟨fg,0,none⟩) k.f.ms.length k.f.c2)/\w'.cell? ⟨w.heap.size+1,0,none⟩=some (.int .i64 (q.m:Int))/\w'.cell? ⟨w.heap.size+1,1,none⟩=some (.int .i64 (q.p:Int))/\w'.cell? ⟨fg,q.m*12,none⟩=some (.int .i64 ycl)/\w'.cell? ⟨fg,q.m*12+1,none⟩=some (.int .i64 ynm)/\w'.cell? ⟨fg,q.m*12+2,none⟩=some (.slice ypa ypl ypc)/\w'.cell? ⟨fg,q.m*12+3,none⟩=some (.int .i64 yr1)/\w'.cell? ⟨fg,q.m*12+4,none⟩=some (.int .i64 yr2)/\w'.cell? ⟨fg,q.m*12+5,none⟩=some (.int .i64 ylo)/\w'.cell? ⟨fg,q.m*12+6,none⟩=some (.int .i64 yst)/\w'.cell? ⟨fg,q.m*12+7,none⟩=some (.string ycode)/\w'.cell? ⟨fg,q.m*12+8,none⟩=some (.slice yha yhl yhc)/\w'.cell? ⟨fg,q.m*12+9,none⟩=some (.slice yma yml ymc)/\w'.cell? ⟨fg,q.m*12+10,none⟩=some (.int .i64 ymAt)/\w'.cell? ⟨fg,q.m*12+11,none⟩=some (.int .i64 yfin))
  (first|exact hS0 W.drew bB bf C|exact hS0 _ ((hb7.block _ l2W).trans bB) ((hb7.block _ lfW).trans bf) ((hb7.block _ lob).trans C)|exact hS0 _ ((Brk _ _ _ _ (Btj hgB)).trans ((hb7.block _ l2W).trans bB)) ((Brk _ _ _ _ (Btj hgf)).trans ((hb7.block _ lfW).trans bf)) ((Brk _ _ _ _ (Btj hgob)).trans ((hb7.block _ lob).trans C)))
  (first|(go_at_call 94;refine(Ba HN _).mono ?_;rintro e w7 ⟨rfl,hb7⟩;have fz7:=(hb7.frozen (p:=⟨g,r.length*4+1,none⟩) lgW).trans (gfz _);have gd1:=(hb7.cell (p:=⟨g,r.length*4+1,none⟩) lgW).trans gc1))
 have h8:=Ba HP _ ((Brm _ _).drew.trans hb7);obtain⟨w8,hw8⟩:∃w8,w8=w7.setCell ⟨g,r.length*4+1,none⟩ (.int .i64 ((q.p+wd:Nat):Int)):=⟨_,rfl⟩;rw[<- hw8]at h8;have ecast:(.int .i64 ((q.p+wd:Nat):Int):Value)=.int .i64 ((q.p:Int)+(wd:Int)):=Hd;rw[ecast]at hw8;rw[<- hw8];have HPU:=Bc (fun (w':World) (j:Nat) sv1 (hj:j<a.length) (h':Bm k ((M.put ((q,.slice la q.lo.length lc,.slice sa q.st.length sc)::r)).put ((⟨q.m,q.p+wd,q.lo,q.st++a.take j⟩,.slice la q.lo.length lc,sv1)::r)) (Da (.slice va a.length vc) a::X) w')=>Bto (Nu h' rfl hj) (Ja k _ _ ⟨q.m,q.p+wd,q.lo,q.st++a.take j⟩ _ sv1 r a[j].1 a[j].2 w' hf h' rfl hm Fr hr Fr));clear HP HN hb7 fz7 gd1 gc1 gfz l2W lfW lgW lob C bB bf hS0 hrow s7 s0 s1 s2 s3 z7 zf7 d7 d0 d1 d2 d3 dfz b1 h2 h HW hW hB2 hWW;clear hw8;go_wp2
 go_loopw [8] (fun i wr=>∃j:Nat,j<=a.length/\i=.int .i64 (j:Int)/\∃sv1,Bm k ((M.put ((q,.slice la q.lo.length lc,.slice sa q.st.length sc)::r)).put ((⟨q.m,q.p+wd,q.lo,q.st++a.take j⟩,.slice la q.lo.length lc,sv1)::r)) (Da (.slice va a.length vc) a::X) wr)
  (fun i _=>a.length-(intOf i).toNat)
 case atStart=>exact⟨0,Ck,rfl,_,by simpa using h8⟩
 case round=>
  clear h8;obtain⟨j,hj,rfl,sv1,h1⟩:=hrel;by_cases hjn:j<a.length
  ·obtain⟨⟨ga,rfl,_,x0,x1⟩,hPu⟩:=Ba HPU _ j sv1 hjn h1;have HQ:=Bc hPu;have kb:(j:Int)<(a.length:Int):=Ck;have et:a.take (j+1)=a.take j++[a[j]]:=by rw[Bss hjn]
   have HET:=Bc (fun (_:Unit)=>et);clear hPu h1 et;generalize a[j]=v at *;obtain⟨v1,v2⟩:=v;simp only at x0 x1 HQ;go_wp2_with fail;refine(Ba HQ).mono ?_;rintro e w9 ⟨rfl,sv9,h9⟩;have H9:=Bc h9;clear h9 HQ x0 x1;go_wp2;go_roundw
   case rel=>exact⟨j+1,Ck,Mg,sv9,by have:=Ba H9;rw[Ba HET (),<- Bsi];exact this⟩
   case measure=>simp[intOf];omega
  have kb:¬(j:Int)<(a.length:Int):=Ck;have H1:=Bc h1;clear h1;go_wp2;go_end0;refine⟨rfl,sv1,?_⟩;have:=Ba H1;rw[Bs7 Ck]at this;exact this
def Cz.E (k:Cz):Cs:=⟨k.cs,k.ms,k.ins,k.heap,k.depth⟩
structure Cz.Ok(k:Cz):Prop where
 fm:Kn k.cs k.ms
 f:k.f.ok k.w0
 l:k.f.l.map Prod.fst=Rf.given++k.cs
 eq:k.f.ms.map (fun z=>z.1.m)=k.ms
 ins:Ft k.w0 k.ia k.ins
 il:k.ins.length<=1000
def Cz.Ok.T{k:Cz}(b:k.Ok):k.f.T=k.E.T:=(Kk k.f.l k.cs b.l).1
def Pd(c:Int)(f:0<=c/\c<=100)(w:TW):Calls prog 146 #[.i c] w fun e b=>e=.r (.i (c-1))/\b=w:=by
 have g:IntKind.i64.wrap (c-2)=c-2:=Cx _ Ck Ck;have h:IntKind.i64.wrap (c-2+1)=c-1:=by rw[show c-2+1=c-1 by omega];exact Cx _ Ck Ck
 go_in;go_wp2;go_ret;exact⟨rfl,rfl⟩
theorem vxg{k:Cz}{M:Br}{X:List Rw}{w:World}{g:Option Addr}{vc:Nat}{a:List (Int×Int)}(h:Bm k M (Da (.slice g a.length vc) a::X) w){q:Nat}(c:q<a.length):∃b,g=some ⟨b,0,none⟩/\b<w.heap.size/\w.cell? ⟨b,q*2,none⟩=some (.int .i64 (a.getD q (0,0)).1)/\w.cell? ⟨b,q*2+1,none⟩=some (.int .i64 (a.getD q (0,0)).2):=by
 obtain⟨b,e,f,i,j⟩:=Nu h rfl c;refine⟨b,e,f,?_,?_⟩
 ·rw[i];simp[Vm,c]
 rw[j];simp[Vm,c]
def Bem(k:Cz)(M:Br)(X:List Rw)(op n:Int)(a:TP)(va:TA)(vc:Nat)(w:TW)(ok:k.Ok)(h:Bm k M (Da (.s va a.length vc) a::X) w)(F:op=10->1<a.length)(t:op=17\/op=18\/op=21\/op=23\/op=19->0<a.length)(J:(Ce a).1=2->0<=(Ce a).2/\(Ce a).2<(M.ts.length:Int)):Calls prog 101 #[.q k.B 0,.i op,.i n,.s va a.length vc] w fun e p=>e=.r (.i (Di k.E M.d op n a))/\Bl w p:=by
 have c9:w.C k.B 9 (.i (M.made:Int)):=h.cell Ls;have c4:w.C k.B 4 (.i k.heap):=h.cell Ls;have c5:w.C k.B 5 (.i k.depth):=h.cell Ls;have c7:w.C k.B 7 (.s M.oa M.os.length M.oc):=h.cell Ls;have a9:=fun p=>Pd 2 Ck p;have a4:=fun p=>Pd 3 Ck p;have b0:=fun p=>Pd 4 Ck p;have b1:=fun p=>Pd 5 Ck p;have a6:=fun p=>Pd 6 Ck p;have eO:M.d.os.length=M.os.length:=by simp[Br.d]
 have eM:M.d.made=M.made:=rfl;have b2:k.E.heap=k.heap:=rfl;have b3:k.E.depth=k.depth:=rfl;generalize b:Di k.E M.d op n a=R;unfold Di at b;rw[eO,eM,b2,b3]at b;have j:=fun (m:Nat)=>(Dr (Brm w.heap.size w):Bl w (w.drewN m));have HH:=Bc h;by_cases K:op=10
 ·obtain⟨g,rfl,L,-,c⟩:=vxg h (F K);rw[Th K]at b;subst K;have ha:1<a.length:=F rfl;simp only[Bug,Bsm,Brz]at c;have v:(a.getD 1 (0,0)).2=(Hl a).2:=rfl;rw[v]at c;generalize (Hl a).2=z at *;clear v h J t F;by_cases l:z=0;·rw[Th l]at b;subst l b;go_in;go_wp2;go_quiet (fail);rename_i nq;have G:(w.drewN nq).C g 3 (.i 0):=c;go_wp2_with fail;refine Qm (a9 _) ?_;rintro I rfl;go_wp2;go_ret;exact⟨rfl,j _⟩
  rw[Pk l]at b;have a5:(z==0)=false:=by simpa using l
  subst b;go_in;go_wp2;go_quiet (fail);rename_i nq;have G:(w.drewN nq).C g 3 (.i z):=c;go_wp2;go_quiet (fail);go_wp2;go_ret
  first|exact⟨rfl,Dr (j _)⟩|exact⟨rfl,j _⟩
 rw[Pk K]at b;by_cases N:op=17\/op=18
 ·rw[Th N]at b;rcases N with rfl|rfl
  all_goals
   obtain⟨g,rfl,L,-,c⟩:=vxg h (t Ck);have ha:0<a.length:=t Ck;simp only[Bug,Bsm,Brz]at c;have v:(a.getD 0 (0,0)).2=(Ce a).2:=rfl;rw[v]at c;generalize (Ce a).2=z at *;clear v h J t F;by_cases l:z=0;·rw[Th l]at b;subst l b;go_in;go_wp2;go_quiet (fail);rename_i nq;have G:(w.drewN nq).C g 1 (.i 0):=c;go_wp2_with fail;refine Qm (a4 _) ?_;rintro I rfl;go_wp2;go_ret;exact⟨rfl,j _⟩
   rw[Pk l]at b;have a5:(z==0)=false:=by simpa using l
   subst b;go_in;go_wp2;go_quiet (fail);rename_i nq;have G:(w.drewN nq).C g 1 (.i z):=c;go_wp2;go_quiet (fail);go_wp2;go_ret
   first|exact⟨rfl,Dr (j _)⟩|exact⟨rfl,j _⟩
 rw[Pk N]at b;obtain⟨N,a7⟩:¬op=17/\¬op=18:=Ck;by_cases Q:op=21
 ·obtain⟨g,rfl,L,-,c⟩:=vxg h (t Ck);rw[Th Q]at b;subst Q;have ha:0<a.length:=t Ck;simp only[Bug,Bsm,Brz]at c;have v:(a.getD 0 (0,0)).2=(Ce a).2:=rfl;rw[v]at c;generalize (Ce a).2=z at *;clear v h J t F;by_cases l:z=0;·rw[Th l]at b;subst l b;go_in;go_wp2;go_quiet (fail);rename_i nq;have G:(w.drewN nq).C g 1 (.i 0):=c;go_wp2_with fail;refine Qm (a4 _) ?_;rintro I rfl;go_wp2;go_ret;exact⟨rfl,j _⟩
  rw[Pk l]at b;have a5:(z==0)=false:=by simpa using l
  by_cases A:k.depth<=(M.os.length:Int)
  ·rw[Th A]at b;subst b;go_in;go_wp2;go_quiet (fail);rename_i nq;have G:(w.drewN nq).C g 1 (.i z):=c;have V:decide (k.depth<=(M.os.length:Int))=true:=by simpa using A
   go_wp2;go_quiet (fail);go_wp2_with fail;refine Qm (a6 _) ?_;rintro I rfl;go_wp2;go_ret
   first|exact⟨rfl,Dr (j _)⟩|exact⟨rfl,j _⟩
  rw[Pk A]at b;subst b;go_in;go_wp2;go_quiet (fail);rename_i nq;have G:(w.drewN nq).C g 1 (.i z):=c;have V:decide (k.depth<=(M.os.length:Int))=false:=by simpa using A
  go_wp2;go_quiet (fail);go_wp2;go_ret
  first|exact⟨rfl,Dr (j _)⟩|exact⟨rfl,j _⟩
 rw[Pk Q]at b;by_cases Y:op=23
 ·obtain⟨g,rfl,L,-,c⟩:=vxg h (t Ck);rw[Th Y]at b;subst Y;have ha:0<a.length:=t Ck;simp only[Bug,Bsm,Brz]at c;have v:(a.getD 0 (0,0)).2=(Ce a).2:=rfl;rw[v]at c;generalize (Ce a).2=z at *;clear v h J t F;by_cases l:z=0;·rw[Th l]at b;subst l b;go_in;go_wp2;go_quiet (fail);rename_i nq;have G:(w.drewN nq).C g 1 (.i 0):=c;go_wp2_with fail;refine Qm (a4 _) ?_;rintro I rfl;go_wp2;go_ret;exact⟨rfl,j _⟩
  rw[Pk l]at b;have a5:(z==0)=false:=by simpa using l
  subst b;go_in;go_wp2;go_quiet (fail);rename_i nq;have G:(w.drewN nq).C g 1 (.i z):=c;go_wp2;go_ret;exact⟨rfl,j _⟩
 rw[Pk Y]at b;by_cases Z:op=15
 ·rw[Th Z]at b;subst Z;by_cases A:k.heap<=(M.made:Int)
  ·rw[Th A]at b;subst b;go_in;go_wp2;go_quiet (fail);rename_i nq;have V:decide (k.heap<=(M.made:Int))=true:=by simpa using A
   go_wp2_with fail;refine Qm (b1 _) ?_;rintro I rfl;go_wp2;go_ret;exact⟨rfl,j _⟩
  rw[Pk A]at b;subst b;go_in;go_wp2;go_quiet (fail);rename_i nq;have V:decide (k.heap<=(M.made:Int))=false:=by simpa using A
  go_wp2;go_quiet (fail);go_wp2;go_ret
  first|exact⟨rfl,Dr (j _)⟩|exact⟨rfl,j _⟩
 rw[Pk Z]at b;by_cases a0:op=19
 ·obtain⟨g,rfl,L,x0,c⟩:=vxg h (q:=0) (t Ck);rw[Th a0]at b;subst a0;have ha:0<a.length:=t Ck;simp only[Bsm,Brz]at x0 c;have hI:=fun (p:TW) (hb:Bl w p)=>Bfp k M _ (Ce a).1 (Ce a).2 3 n p ok.f (h.below hb) J _ rfl;rw[ok.T]at hI;have eI:Jf k.E.T (M.ts.map Prod.fst) ((Ce a).1,(Ce a).2) (3,n)=Jf k.E.T M.d.ts (Ce a) (3,n):=rfl;rw[eI]at hI;generalize Jf k.E.T M.d.ts (Ce a) (3,n)=B at *;have HI:=Bc hI;have v:a.getD 0 (0,0)=Ce a:=rfl;rw[v]at x0 c;clear v h J t F hI eI;generalize Ce a=z at *;obtain⟨z1,z2⟩:=z;simp only at x0 c HI;go_in;go_wp2;go_quiet (fail);rename_i nq;have y0:(w.drewN nq).C g 0 (.i z1):=x0;have y1:(w.drewN nq).C g 1 (.i z2):=c;have O:g<(w.drewN nq).heap.size:=L;have a2:=j nq;clear x0 c c9 c4 c5 c7 L;generalize w.drewN nq=wq at *;go_wp2
  go_region_held3 (fun p=>p.C g 0 (.i z1)/\p.C g 1 (.i z2))
   (first|exact⟨y0,y1⟩|exact⟨QC D O y0,QC D O y1⟩|exact⟨QC a3 (QL D O) (QC D O y0),QC a3 (QL D O) (QC D O y1)⟩)
   (first|(go_at_call 142;refine(Lb n _).mono ?_;rintro e w7 ⟨rfl,D⟩)|(go_at_call 145;refine(Ba HI _ (a2.drew.trans (D.mono a2.size))).mono ?_;rintro e w8 ⟨rfl,a3⟩))
  have b4:=a2.drew.trans (D.mono a2.size);have a8:=QB b4 a3;clear D a3 y0 y1 HI;cases B with
  | true =>
   simp only[Bv7]at b;subst b;go_wp2;go_quiet (fail);go_wp2;go_ret;exact⟨rfl,Dr a8⟩
  | false =>
   simp only[Bool.false_eq_true,Btv]at b;subst b;go_wp2_with fail;refine Qm (b0 _) ?_;rintro I rfl;go_wp2;go_ret;exact⟨rfl,a8⟩
 rw[Pk a0]at b;by_cases a1:op=20
 ·rw[Th a1]at b;subst a1;by_cases A:k.depth<=(M.os.length:Int)
  ·rw[Th A]at b;subst b;go_in;go_wp2;go_quiet (fail);rename_i nq;have V:decide (k.depth<=(M.os.length:Int))=true:=by simpa using A
   go_wp2;go_quiet (fail);go_wp2_with fail;refine Qm (a6 _) ?_;rintro I rfl;go_wp2;go_ret
   first|exact⟨rfl,Dr (j _)⟩|exact⟨rfl,j _⟩
  rw[Pk A]at b;subst b;go_in;go_wp2;go_quiet (fail);rename_i nq;have V:decide (k.depth<=(M.os.length:Int))=false:=by simpa using A
  go_wp2;go_quiet (fail);go_wp2;go_ret
  first|exact⟨rfl,Dr (j _)⟩|exact⟨rfl,j _⟩
 rw[Pk a1]at b;subst b;have b5:(op==10)=false:=by simpa using K
 have b6:(op==17)=false:=by simpa using N
 have b7:(op==18)=false:=by simpa using a7
 have b8:(op==21)=false:=by simpa using Q
 have b9:(op==23)=false:=by simpa using Y
 have c0:(op==15)=false:=by simpa using Z
 have c1:(op==19)=false:=by simpa using a0
 have c2:(op==20)=false:=by simpa using a1
 clear K N a7 Q Y Z a0 a1 t F;go_in;go_wp2;go_quiet (fail);rename_i nq;go_wp2;go_quiet (fail);go_wp2;go_ret
 first|exact⟨rfl,Dr (j _)⟩|exact⟨rfl,j _⟩
def Cz.Ok.meth{k:Cz}(b:k.Ok){n:Nat}(c:n<k.f.ms.length):k.E.meth n=k.f.ms[n].1.m:=by
 unfold Cs.meth Cz.E;simp only;rw[<- b.eq,Vm,Bsf,Brl c];rfl
def RFl.two{f:RFl}{w:TW}(j:f.ok w){k b:Nat}(l:f.a2=some ⟨b,0,none⟩)(p:k<f.ms.length):w.C b (k*12) (.i f.ms[k].1.m.cl)/\w.C b (k*12+1) (.i f.ms[k].1.m.name):=by
 obtain⟨m,s,q,_,c,h⟩:=RFl.mth j p;have e:=l.symm.trans q;simp only[Option.some.injEq,Addr.mk.injEq,Br8]at e;subst e;rw[<- h.cl,<- h.nm];exact⟨c 0 _ rfl,c 1 _ rfl⟩
theorem Bip(k:Cz)(M:Br)(X:List Rw)(n t:Nat)(w:World)(C:k.Ok)(h:Bm k M X w)(hn:n<k.f.ms.length)(ht:t<M.ts.length):Calls prog 148 #[.pointer (some ⟨k.B,0,none⟩),.int .i64 (n:Int),.int .i64 (t:Int)] w fun e D=>e=.returned (.int .i64 ((N1 k.E M.d (n:Int) (t:Int):Nat):Int))/\Below w.heap.size w D:=by
 obtain⟨g,hg,_,b1,_⟩:=Pc h ht;have c8:w.cell? ⟨k.B,8,none⟩=some (.slice (some ⟨g,0,none⟩) M.ts.length M.tc):=by rw[<- hg];exact h.cell Ls
 have g0:w.cell? ⟨g,t*3,none⟩=some (.int .i64 M.ts[t].1.cl):=b1 0 _ rfl;have eC:(Cc M.d.ts (t:Int)).cl=M.ts[t].1.cl:=by rw[show M.d.ts=M.ts.map Prod.fst from rfl,Sv ht]
 have eN:(k.E.meth (n:Int).toNat).name=k.f.ms[n].1.m.name:=by rw[Brx,C.meth hn]
 have eL:k.E.ms.length=k.f.ms.length:=by rw[show k.E.ms=k.ms from rfl,<- C.eq];simp
 generalize hR:N1 k.E M.d (n:Int) (t:Int)=R;unfold N1 at hR;rw[eC,eN,Brx]at hR;have c9:=C.f.2.2.1;obtain⟨_,I,a5,_,_,_⟩:=RFl.mth (h.fok C.f) hn;generalize M.ts[t].1.cl=c at *;have d2:(t:Int)<(M.ts.length:Int):=Ck;have J:Hid (En k.E c k.f.ms[n].1.m.name (k.E.ms.drop 0) 0 n=R):=hR;have HH:=Bc h;clear h b1 hg eC eN hR;go_in;go_wp2
 go_loopw [8,9] (fun bv i wr=>∃j b:Nat,j<=k.f.ms.length/\b<k.f.ms.length/\bv=.int .i64 (b:Int)/\i=.int .i64 (j:Int)/\Hid (En k.E c k.f.ms[n].1.m.name (k.E.ms.drop j) j b=R)/\Below w.heap.size w wr)
  (fun _ i _=>k.f.ms.length-(intOf i).toNat)
 case atStart=>exact⟨0,n,Ck,hn,rfl,rfl,J,Brm _ _⟩
 case round=>
  clear J c8 g0;obtain⟨j,b,hj,hb,rfl,rfl,J,hB⟩:=hrel;have K:=(Ba HH).below hB;have d1:wr.cell? ⟨k.B,1,none⟩=some (.slice (some ⟨I,0,none⟩) k.f.ms.length k.f.c2):=by rw[<- a5];exact K.cell Ls
  by_cases a6:j<k.f.ms.length
  ·have d0:wr.cell? ⟨k.B,0,none⟩=some (.slice k.f.a1 k.f.l.length k.f.c1):=K.cell Ls;have L:=K.fok C.f;obtain⟨b0,-⟩:=RFl.two L a5 hb;obtain⟨-,n1⟩:=RFl.two L a5 hn;obtain⟨m,d3,b2,a8,b3,a7⟩:=RFl.mth L a6;have b4:=a5.symm.trans b2;simp only[Option.some.injEq,Addr.mk.injEq,Br8]at b4;subst b4;have lB:=K.ltB;have s:=Ba J;have eD:k.E.ms.drop j=k.f.ms[j].1.m::k.E.ms.drop (j+1):=by
    rw[Brj (by rw[eL];exact a6)]
    congr 1
    have:=C.meth a6;unfold Cs.meth at this;rw[Vm,Brl (by rw[eL];exact a6)]at this;exact this
   rw[eD,En,C.meth hb]at s;have N:=fun D (h':k.f.ok D)=>J9 k.f.a1 (some ⟨I,0,none⟩) k.f.c1 k.f.ms.length k.f.c2 k.f.bb k.f.l c k.f.ms[j].1.m.cl D (by have:=h'.1;omega) h'.2.2.2.2.1;have eT:Ct k.f.l=k.E.T:=C.T;rw[eT]at N;rw[<- a7.cl,<- a7.nm]at s;rw[<- a7.cl]at N;obtain⟨q,F,O,Q,V,Y,Z,lo,st,a0,ha,hl,hc,ma,ml,mc,a2,a3⟩:=m;obtain⟨y0,y1,y2,y3,y4,y5,y6,y7,y8,y9,ya,yb⟩:=Oe b3;simp only at y0 y1 y2 y3 y4 y5 y6 y7 y8 y9 ya yb s N;generalize c3:Tr.rbel k.E.T c q=B at *;have b5:=Bc N;have c4:=Bc L;have G:Below wr.heap.size wr (wr.alloc (O12 q F O Q V Y Z lo st a0 ha hl hc ma ml mc a2 a3)):=QN _;have CM:=Be wr (O12 q F O Q V Y Z lo st a0 ha hl hc ma ml mc a2 a3);have e0:=(G.cell (p:=⟨k.B,0,none⟩) lB).trans d0;have e1:=(G.cell (p:=⟨k.B,1,none⟩) lB).trans d1;have f0:=(G.cell (p:=⟨I,b*12,none⟩) a8).trans b0;have f1:=(G.cell (p:=⟨I,n*12+1,none⟩) a8).trans n1;have v0:(wr.alloc (O12 q F O Q V Y Z lo st a0 ha hl hc ma ml mc a2 a3)).cell? ⟨wr.heap.size,0,none⟩=some (.int .i64 q):=(Bb CM 0).trans rfl;have v1:(wr.alloc (O12 q F O Q V Y Z lo st a0 ha hl hc ma ml mc a2 a3)).cell? ⟨wr.heap.size,1,none⟩=some (.int .i64 F):=(Bb CM 1).trans rfl;have lV:=Sp CM;have a9:=Brs lB G.size;have b6:=Brs a8 G.size;have b7:=QB hB G;have b8:=L.below G;have b9:=Bc b8;have jb:(j:Int)<(k.f.ms.length:Int):=Ck;have bb:(b:Int)<(k.f.ms.length:Int):=Ck;have nb:(n:Int)<(k.f.ms.length:Int):=Ck;generalize c5:k.f.ms[b].1.m.cl=cb at *;generalize c0:k.f.ms[n].1.m.name=nn at *;have v:=Bc (fun (_:Unit)=>c0);clear b3 a7 K L b8 N b2 eD J CM c0 c5 c3;go_wp2;generalize wr.alloc (O12 q F O Q V Y Z lo st a0 ha hl hc ma ml mc a2 a3)=W at *;generalize wr.heap.size=vb at *
   go_region_held3 (fun D=>D.cell? ⟨k.B,0,none⟩=some (.slice k.f.a1 k.f.l.length k.f.c1)/\D.cell? ⟨k.B,1,none⟩=some (.slice (some ⟨I,0,none⟩) k.f.ms.length k.f.c2)/\D.cell? ⟨vb,0,none⟩=some (.int .i64 q))
    (first|exact⟨e0,e1,v0⟩|exact⟨QC z a9 e0,QC z a9 e1,QC z lV v0⟩)
    (first|(go_at_call 91;refine(Ba b5 _ ((Ba b9).below (Brm _ _).drew)).mono ?_;rintro e w7 ⟨rfl,z⟩))
   have k1:=(z.cell (p:=⟨k.B,1,none⟩) a9).trans e1;have u0:=(z.cell (p:=⟨vb,0,none⟩) lV).trans v0;have u1:=(z.cell (p:=⟨vb,1,none⟩) lV).trans v1;have q0:=(z.cell (p:=⟨I,b*12,none⟩) b6).trans f0;have q1:=(z.cell (p:=⟨I,n*12+1,none⟩) b6).trans f1;have a4:=b7.drew.trans (z.mono b7.size);clear z e0 e1 v0 v1 f0 f1 b5 c4 b9 y0 y1 y2 y3 y4 y5 y6 y7 y8 y9 ya yb d0 d1 b0 n1;by_cases z1:q=255
   ·have c6:(q != 255)=false:=by simpa using z1
    have A:Hid (En k.E c k.f.ms[n].1.m.name (k.E.ms.drop (j+1)) (j+1) b=R):=by unfold Hid;rw[<- s];rw[Ba v (),Pk (by simp[z1])]
    clear s;go_wp2;go_quiet (fail);go_wp2;go_roundw
    case rel=>exact⟨j+1,b,Ck,Ck,by first|rfl | go_num,Mg,by rw[Ba v ()]at *;exact A,Dr a4⟩
    case measure=>simp[intOf];omega
   have c6:(q != 255)=true:=by simpa using z1
   by_cases z2:F=nn
   ·subst z2;cases B with
    | false =>
     have A:Hid (En k.E c k.f.ms[n].1.m.name (k.E.ms.drop (j+1)) (j+1) b=R):=by unfold Hid;rw[<- s];rw[Ba v (),Pk Hd]
     clear s;go_wp2;go_quiet (fail);go_wp2;go_roundw
     case rel=>exact⟨j+1,b,Ck,Ck,by first|rfl | go_num,Mg,by rw[Ba v ()]at *;exact A,Dr a4⟩
     case measure=>simp[intOf];omega
    | true =>
     by_cases z4:cb<q
     ·have c7:decide (cb<q)=true:=by simpa using z4
      have A:Hid (En k.E c k.f.ms[n].1.m.name (k.E.ms.drop (j+1)) (j+1) j=R):=by unfold Hid;rw[<- s];rw[Ba v (),Th ⟨z1,rfl,rfl,z4⟩]
      clear s;go_wp2;go_quiet (fail);go_wp2;go_roundw
      case rel=>exact⟨j+1,j,Ck,Ck,by first|rfl | go_num,Mg,by rw[Ba v ()]at *;exact A,Dr a4⟩
      case measure=>simp[intOf];omega
     have c7:decide (cb<q)=false:=by simpa using z4
     have A:Hid (En k.E c k.f.ms[n].1.m.name (k.E.ms.drop (j+1)) (j+1) b=R):=by unfold Hid;rw[<- s];rw[Ba v (),Pk (by simp[z4])]
     clear s;go_wp2;go_quiet (fail);go_wp2;go_roundw
     case rel=>exact⟨j+1,b,Ck,Ck,by first|rfl | go_num,Mg,by rw[Ba v ()]at *;exact A,Dr a4⟩
     case measure=>simp[intOf];omega
   have d4:(F==nn)=false:=by simpa using z2
   have A:Hid (En k.E c k.f.ms[n].1.m.name (k.E.ms.drop (j+1)) (j+1) b=R):=by unfold Hid;rw[<- s];rw[Ba v (),Pk (by simp[z2])]
   clear s;go_wp2;go_quiet (fail);go_wp2;go_roundw
   case rel=>exact⟨j+1,b,Ck,Ck,by first|rfl | go_num,Mg,by rw[Ba v ()]at *;exact A,Dr a4⟩
   case measure=>simp[intOf];omega
  have kb:¬(j:Int)<(k.f.ms.length:Int):=Ck;have HE:Hid (b=R):=by
   have:=Ba J;rw[Brq (by rw[eL];omega),En]at this;exact this
  clear K;go_wp2;go_ret;exact⟨by rw[<- Ba HE];rfl,hB⟩
def Bch(k:Cz)(M:Br)(X:List Rw)(o:Bz)(lv sv:TX)(r:List (Bz×Value×Value))(op n:Int)(a:TP)(V:TA)(vc:Nat)(w:TW)(ok:k.Ok)(h:Bm k M (Da (.s V a.length vc) a::X) w)(v:M.os=(o,lv,sv)::r)(hr:r.length<=1000)(hs:o.st.length<=1000)(A:o.m<k.f.ms.length)(D:(o.st.length:Int)<k.f.ms[o.m].1.m.stack) (K:op=0\/op=1\/op=7\/op=8\/op=9\/op=10\/op=19)(hn:-1<=n/\n<=255)(c:op=19->1<=a.length)(F:7<=op->op<=10->2<=a.length)(G:7<=op->op<=10->(-2147483648<=(Ce a).2/\(Ce a).2<=2147483647)/\(-2147483648<=(Hl a).2/\(Hl a).2<=2147483647)):Calls prog 153 #[.q k.B 0,.i op,.i n,.s V a.length vc] w fun e l=>e=.r (.tuple #[])/\∃j,Bm k (M.put ((⟨o.m,o.p,o.lo,o.st++[Kz k.E M.d op n a]⟩,lv,j)::r)) (Da (.s V a.length vc) a::X) l:=by
 have I:=Bc (fun (v1 v2:Int) (l:TW) (hb:Bl w l)=>Ja k M _ o lv sv r v1 v2 l ok.f (h.below hb) v A D hr hs);generalize b:Kz k.E M.d op n a=P;unfold Kz at b;obtain⟨p1,p2⟩:=P;have bd:Bl w w.drew:=(Brm _ _).drew;by_cases L:op=0
 ·rw[Th L]at b;subst L;clear h v A D K c F G;by_cases a0:127<n;·rw[Th a0]at b;have hw:IntKind.i64.wrap (n-256)=n-256:=Cx _ Ck Ck;obtain⟨rfl,rfl⟩:=Prod.mk.inj b;clear b;go_in;go_wp2_with fail;refine Qm (Ba I _ _ _ (Brm _ _)) ?_;rintro N ⟨j,c⟩;go_wp2;go_end0;exact⟨rfl,j,c⟩
  rw[Pk a0]at b;obtain⟨rfl,rfl⟩:=Prod.mk.inj b;clear b;go_in;go_wp2_with fail;refine Qm (Ba I _ _ _ (Brm _ _)) ?_;rintro N ⟨j,c⟩;go_wp2;go_end0;exact⟨rfl,j,c⟩
 rw[Pk L]at b;by_cases O:op=1;·rw[Th O]at b;subst O;obtain⟨rfl,rfl⟩:=Prod.mk.inj b;clear h v A D K c F G b;go_in;go_wp2_with fail;refine Qm (Ba I _ _ _ (Brm _ _)) ?_;rintro N ⟨j,c⟩;go_wp2;go_end0;exact⟨rfl,j,c⟩
 rw[Pk O]at b;by_cases Q:op=19;·rw[Th Q]at b;subst Q;have Y:0<a.length:=c rfl;obtain⟨g,rfl,hg,x0,t⟩:=vxg h Y;have ev:a.getD 0 (0,0)=(p1,p2):=b;rw[ev]at x0 t;simp only[Bsm,Brz]at x0 t;clear h v A D K c F G b ev;go_in;go_wp2_with fail;refine Qm (Ba I _ _ _ (Brm _ _)) ?_;rintro N ⟨j,c⟩;go_wp2;go_end0;exact⟨rfl,j,c⟩
 rw[Pk Q,Pk (show ¬op=17 by omega)]at b;have J:7<=op/\op<=10:=Ck;have Y:1<a.length:=F J.1 J.2;obtain⟨a1,a2⟩:=G J.1 J.2;obtain⟨g,rfl,hg,-,t⟩:=vxg h (q:=0) Ck;obtain⟨g',eg,-,-,Z⟩:=vxg h Y;simp only[Option.some.injEq,Addr.mk.injEq,Br8]at eg;subst eg;have e0:(a.getD 0 (0,0)).2=(Ce a).2:=rfl;have e1:(a.getD 1 (0,0)).2=(Hl a).2:=rfl;rw[e0]at t;rw[e1]at Z;simp only[Bsm,Brz,Bug]at t Z;obtain⟨rfl,rfl⟩:=Prod.mk.inj b;have HV:=Bc (Bbx op (Ce a).2 (Hl a).2 w.drew a1 a2);generalize Ip op (Ce a).2 (Hl a).2=z at *;generalize (Ce a).2=z0 at *;generalize (Hl a).2=z1 at *;have a3:0<a.length:=Ck;have a4:(1:Int)<(a.length:Int):=Ck;have hq:op=7\/op=8\/op=9\/op=10:=Ck;clear h v A D c F G b e0 e1 L O Q J a1 a2 K;rcases hq with rfl|rfl|rfl|rfl
 all_goals
  go_in;go_wp2_with fail
  go_region_held3 (fun l=>l.C g 1 (.i z0)/\l.C g 3 (.i z1))
   (first|exact⟨t,Z⟩)
   (first|(go_at_call 202;refine(Ba HV).mono ?_;rintro e w7 ⟨rfl,rfl⟩))
  go_wp2_with fail;refine Qm (Ba I _ _ _ bd) ?_;rintro N ⟨j,c⟩;go_wp2;go_end0;exact⟨rfl,j,c⟩
end Go.Proofs.YtpcgnjolfahacaaGreat
