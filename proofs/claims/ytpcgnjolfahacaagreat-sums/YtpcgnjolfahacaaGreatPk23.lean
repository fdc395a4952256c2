/- a part of the proofs -/
import Derived.Test.YtpcgnjolfahacaaGreatPk22
set_option maxRecDepth 100000
set_option maxHeartbeats 40000000
set_option linter.unusedVariables false
set_option linter.unusedSimpArgs false
namespace Go.Proofs.YtpcgnjolfahacaaGreat
open Go.RowKit
theorem Aco (k:Mc.K) (S:Mc.S) (v:Mc.V) (w:World) (ok:k.Ok) (h:Mc.At k S v w) (hrl:S.read≤100000) :
  Calls Tryz.prog 196 #[.pointer (some ⟨k.B,0,none⟩)] w fun e w'=>e=.returned (.tuple #[])∧∃ v',Mc.At k (Mc.inp k.E S) v' w' :=
 (Ads k S v w ok h hrl).mono fun _ _ ⟨a,b⟩=>⟨a,v,b⟩
theorem Aat (k:Mc.K) (S:Mc.S) (v:Mc.V) (p op n:Int) (w:World) (ok:k.Ok) (h:Mc.At k S v w) (hop:15≤op∧op≤25) (hn:0≤n∧n≤255) (hF:Mc.Few S) :
  Calls Tryz.prog 133 #[.pointer (some ⟨k.B,0,none⟩),.agg #[.int .i64 p,.int .i64 op,.int .i64 n]] w fun e w'=>e=.returned (.tuple #[])∧∃ v',Mc.At k (Mc.act k.E op n S) v' w':=by
 rcases(show op=15∨op=16∨op=17∨op=18∨op=19∨op=20∨op=21∨op=22∨op=23∨op=24∨op=25 by omega) with rfl|rfl|rfl|rfl|rfl|rfl|rfl|rfl|rfl|rfl|rfl
 ·have hc:=Ea k S v p 15 n _ ok (h.gr ok (QN (O9 p 15 n))) (by omega) hn hF.ob;have e:Mc.act k.E 15 n S=Mc.act k.E 15 n S:=rfl;rw[e];clear h e hop hF;go_enter Tryz.func133,Tryz.ntmps133;go_wp2_with fail
  refine hc.mono ?_;rintro e w1 ⟨rfl,v',h1⟩;go_wp2
  go_end0
  exact⟨rfl,v',h1⟩
 ·have hc:=Ea k S v p 16 n _ ok (h.gr ok (QN (O9 p 16 n))) (by omega) hn hF.ob;have e:Mc.act k.E 16 n S=Mc.act k.E 16 n S:=rfl;rw[e];clear h e hop hF;go_enter Tryz.func133,Tryz.ntmps133;go_wp2_with fail
  refine hc.mono ?_;rintro e w1 ⟨rfl,v',h1⟩;go_wp2
  go_end0
  exact⟨rfl,v',h1⟩
 ·have hc:=Ea k S v p 17 n _ ok (h.gr ok (QN (O9 p 17 n))) (by omega) hn hF.ob;have e:Mc.act k.E 17 n S=Mc.act k.E 17 n S:=rfl;rw[e];clear h e hop hF;go_enter Tryz.func133,Tryz.ntmps133;go_wp2_with fail
  refine hc.mono ?_;rintro e w1 ⟨rfl,v',h1⟩;go_wp2
  go_end0
  exact⟨rfl,v',h1⟩
 ·have hc:=Ea k S v p 18 n _ ok (h.gr ok (QN (O9 p 18 n))) (by omega) hn hF.ob;have e:Mc.act k.E 18 n S=Mc.act k.E 18 n S:=rfl;rw[e];clear h e hop hF;go_enter Tryz.func133,Tryz.ntmps133;go_wp2_with fail
  refine hc.mono ?_;rintro e w1 ⟨rfl,v',h1⟩;go_wp2
  go_end0
  exact⟨rfl,v',h1⟩
 ·have hc:=Ea k S v p 19 n _ ok (h.gr ok (QN (O9 p 19 n))) (by omega) hn hF.ob;have e:Mc.act k.E 19 n S=Mc.act k.E 19 n S:=rfl;rw[e];clear h e hop hF;go_enter Tryz.func133,Tryz.ntmps133;go_wp2_with fail
  refine hc.mono ?_;rintro e w1 ⟨rfl,v',h1⟩;go_wp2
  go_end0
  exact⟨rfl,v',h1⟩
 ·have hc:=Xu k S v n _ ok (h.gr ok (QN (O9 p 20 n))) hF.wt;have e:Mc.act k.E 20 n S=Mc.call k.E n S:=rfl;rw[e];clear h e hop hF;go_enter Tryz.func133,Tryz.ntmps133;go_wp2_with fail
  refine hc.mono ?_;rintro e w1 ⟨rfl,v',h1⟩;go_wp2
  go_end0
  exact⟨rfl,v',h1⟩
 ·have hc:=Z4 k S v n _ ok (h.gr ok (QN (O9 p 21 n))) hF.wt;have e:Mc.act k.E 21 n S=Mc.send k.E n S:=rfl;rw[e];clear h e hop hF;go_enter Tryz.func133,Tryz.ntmps133;go_wp2_with fail
  refine hc.mono ?_;rintro e w1 ⟨rfl,v',h1⟩;go_wp2
  go_end0
  exact⟨rfl,v',h1⟩
 ·have hc:=Ql k S v _ ok (h.gr ok (QN (O9 p 22 n)));have e:Mc.act k.E 22 n S=Mc.giveBack k.E S:=rfl;rw[e];clear h e hop hF;go_enter Tryz.func133,Tryz.ntmps133;go_wp2_with fail
  refine hc.mono ?_;rintro e w1 ⟨rfl,v',h1⟩;go_wp2
  go_end0
  exact⟨rfl,v',h1⟩
 ·have hc:=M7 k S v _ ok (h.gr ok (QN (O9 p 23 n)));have e:Mc.act k.E 23 n S=Mc.throwTaken k.E S:=rfl;rw[e];clear h e hop hF;go_enter Tryz.func133,Tryz.ntmps133;go_wp2_with fail
  refine hc.mono ?_;rintro e w1 ⟨rfl,v',h1⟩;go_wp2
  go_end0
  exact⟨rfl,v',h1⟩
 ·have hc:=Aco k S v _ ok (h.gr ok (QN (O9 p 24 n))) hF.rd;have e:Mc.act k.E 24 n S=Mc.inp k.E S:=rfl;rw[e];clear h e hop hF;go_enter Tryz.func133,Tryz.ntmps133;go_wp2_with fail
  refine hc.mono ?_;rintro e w1 ⟨rfl,v',h1⟩;go_wp2
  go_end0
  exact⟨rfl,v',h1⟩
 ·have hc:=Abx k S v _ ok (h.gr ok (QN (O9 p 25 n))) hF.ou;have e:Mc.act k.E 25 n S=Mc.outp S:=rfl;rw[e];clear h e hop hF;go_enter Tryz.func133,Tryz.ntmps133;go_wp2_with fail
  refine hc.mono ?_;rintro e w1 ⟨rfl,v',h1⟩;go_wp2
  go_end0
  exact⟨rfl,v',h1⟩
theorem Adh (k:Mc.K) (S:Mc.S) (v:Mc.V) (p op n:Int) (w:World) (ok:k.Ok) (h:Mc.At k S v w) (hop:0≤op∧op≤25) (hn:0≤n∧n≤255) (hF:Mc.Few S) :
  Calls Tryz.prog 133 #[.pointer (some ⟨k.B,0,none⟩),.agg #[.int .i64 p,.int .i64 op,.int .i64 n]] w fun e w'=>e=.returned (.tuple #[])∧∃ v',Mc.At k (Mc.act k.E op n S) v' w':=by
 by_cases h14:op≤14
 ·exact Aan k S v p op n w ok h ⟨hop.1,h14⟩ hn
 ·exact Aat k S v p op n w ok h ⟨by omega,hop.2⟩ hn hF
theorem Mc.K.Ok.cm {k:Mc.K} (ok:k.Ok) (n:Int):(k.E.meth n).code.length≤1000∧∀ x∈(k.E.meth n).code,0≤x∧x≤255:=by
 unfold Mc.E.meth
 split
 ·simp[Mc.noMeth]
 ·split
  ·simp[Mc.noMeth]
  ·rename_i h0 h1;have hl:k.E.ms.length=k.lms.length:=by simp[Mc.K.E]
   have hi:n.toNat<k.lms.length:=by omega
   have e:k.E.ms.getD n.toNat Mc.noMeth=k.lms[n.toNat].1:=by
    rw[List.getD_eq_getElem?_getD];simp[Mc.K.E,hi]
   rw[e];exact ok.cd _ (List.getElem_mem hi)
theorem Vl (c:Mc.Call) (l:List Int) (ca:Option Addr) (cc bb B o:Nat) (t:TypeId) (pre post:List Value) (w:World) (ho:pre.length=o) (hf:Mc.Wf c) (h:Mid w B t pre c.cells post) (hl:l.length≤1000) (h0:∀ x∈l,0≤x) (hi:IntsAt w bb (.slice ca l.length cc) l) (hx:c.next≤2000) :
  Calls Tryz.prog 132 #[.pointer (some ⟨B,o,none⟩),.slice ca l.length cc] w fun e w'=>e=.returned (.agg #[.int .i64 (Cd.orZero (Cd.one l c.next)).place,.int .i64 (Cd.orZero (Cd.one l c.next)).op,.int .i64 (Cd.orZero (Cd.one l c.next)).n]) ∧
   Mid w' B t pre (⟨c.meth,c.next,(Cd.orZero (Cd.one l c.next)).place.toNat+Cd.wd (Cd.orZero (Cd.one l c.next)).op,c.lo,c.st,c.h⟩:Mc.Call).cells post∧Gr B w w':=by
 have hR:=fun w' (hb:Below w.heap.size w w')=>Rm l ca cc bb c.next w' hl (by omega) h0 (hi.kp (Kp.of_below (e:=none) hb) (by decide))
 generalize hone:Cd.one l c.next=r at *
 have hplace:∃ q:Nat,(Cd.orZero r).place=(q:Int)∧q≤100000:=by
  cases r with
  | none=>exact⟨0,rfl,by omega⟩
  | some x =>
   unfold Cd.one at hone
   split at hone
   ·simp only[Option.some.injEq]at hone;subst hone;exact⟨c.next,rfl,by omega⟩
   ·cases hone
 obtain⟨q,hq,hq2⟩:=hplace;generalize Cd.orZero r=one at *;obtain⟨pl,op,n⟩:=one;simp only at hq hR ⊢;subst hq;rw[Int.toNat_natCast];have hN:=fun w=>Hq q op n w hq2;have hlt:=h.lt;clear hone hi h0;go_enter Tryz.func132,Tryz.ntmps132;have s2:=((h.alloc (O9 0 0 0)).sees ho hf).n;go_wp2_with fail
 refine(hR _ (QN _)).mono ?_;rintro e w1 ⟨rfl,hb1⟩;have hM1:=(h.alloc (O9 0 0 0)).below hb1;have C1:=stay hb1 (Ad w (O9 0 0 0));have lC1:=lt_of_block C1;obtain⟨z0,z1,z2,z3,z4,z5,z6⟩:=hM1.sees ho hf;have f1:=z6 (o+1);have f2:=z6 (o+2);have hlt1:=hM1.lt;have hg1:Gr B w w1:=Gr.of_below ((Gr.refl _ _).alloc _) hb1;clear z0 z3 z4 z5 z6 s2;go_wp2_with fail
 refine(hN _).mono ?_;rintro e w2 ⟨rfl,hb2⟩;have hMa:=hM1.setP ho c.next
 have hfa:Mc.Wf ⟨c.meth,c.next,c.next,c.lo,c.st,c.h⟩:=⟨hf.lo,hf.st,hf.h⟩
 have hsz:(w1.setCell ⟨B,o+1,none⟩ (.int .i64 (c.next:Int))).heap.size=w1.heap.size:=by simp[World.setCell]
 have hM2:=(hMa.alloc (O9 (q:Int) op n)).below hb2;have O0:=Ad (w1.setCell ⟨B,o+1,none⟩ (.int .i64 (c.next:Int))) (O9 (q:Int) op n)
 rw[hsz]at O0;have O2:=stay hb2 O0;have C1':(w1.setCell ⟨B,o+1,none⟩ (.int .i64 (c.next:Int))).heap[w.heap.size]?=_:=(Below.heap_setCell _ _ _ _ (by simpa using (show w.heap.size≠B by omega))).trans C1
 have C2:=stay hb2 (Af C1' (O9 (q:Int) op n));have lO2:=lt_of_block O2;have lC2:=lt_of_block C2;have u0:=(Ab O2 0).trans (show _=some (.int .i64 (q:Int)) from rfl);have u1:=(Ab O2 1).trans (show _=some (.int .i64 op) from rfl);have u2:=(Ab O2 2).trans (show _=some (.int .i64 n) from rfl);have v0:=(Ab C2 0).trans (show _=some (.int .i64 0) from rfl);have v1:=(Ab C2 1).trans (show _=some (.int .i64 0) from rfl);have v2:=(Ab C2 2).trans (show _=some (.int .i64 0) from rfl);obtain⟨g0,g1,g2⟩:=fr3 C2;obtain⟨z0,y1,y2,z3,z4,z5,z6⟩:=hM2.sees ho hfa;have f2':=z6 (o+2);have hlt2:=hM2.lt;have hMb:=hM2.setN ho (q+Cd.wd op);have hg2:Gr B w w2:=Gr.of_below ((hg1.setB _).alloc _) hb2;have hne:w.heap.size≠B:=by omega
 have hMc:∀ u0 u1 u2,Mid (((((w2.setCell ⟨B,o+2,none⟩ (.int .i64 ((q+Cd.wd op:Nat):Int))).setCell ⟨w.heap.size,0,none⟩ u0).setCell ⟨w.heap.size,1,none⟩ u1)).setCell ⟨w.heap.size,2,none⟩ u2) B t pre (⟨c.meth,c.next,q+Cd.wd op,c.lo,c.st,c.h⟩:Mc.Call).cells post:=fun a b d=>by
  unfold Mid;rw[Below.heap_setCell _ _ _ _ (by simpa using Ne.symm hne),Below.heap_setCell _ _ _ _ (by simpa using Ne.symm hne),Below.heap_setCell _ _ _ _ (by simpa using Ne.symm hne)];exact hMb
 have HMC:=Ac hMc;have HG2:=Ac hg2;clear hMa hM1 hM2 C1 C1' O0 hb1 hb2 z0 z1 z2 z3 z4 z5 z6 y1 hg1 hMb hMc hg2 h;go_wp2;refine bodyPost_ret (v:=.agg #[.int .i64 (q:Int),.int .i64 op,.int .i64 n]) (by simp[results,Tryz.results132,go_sem,v0,v1,v2]) rfl ?_;have hMz:=Aa HMC (.int .i64 (q:Int)) (.int .i64 op) (.int .i64 n);rw[Int.natCast_add]at hMz;exact⟨rfl,hMz,((((Aa HG2).setB _).set (.inl (Nat.le_refl _)) _).set (.inl (Nat.le_refl _)) _).set (.inl (Nat.le_refl _)) _⟩
theorem Mc.At.other {k:Mc.K}{S:Mc.S}{v:Mc.V}{w:World} (h:Mc.At k S v w) (ok:k.Ok) {g:Nat}{cs:List Value} (hg:w.heap[g]?=some (.cells cs.toArray 219 (0,0))) (hge:k.w0.heap.size≤g) (i:Nat) (u:Value):Mc.At k S v (w.setCell ⟨g,i,none⟩ u):=by
 have hBs:=ok.Bs;have hsz:=ok.sz;have hne:∀ q,q≠g→(w.setCell ⟨g,i,none⟩ u).heap[q]?=w.heap[q]?:=fun q hq=>Below.heap_setCell _ _ _ _ (by simpa using hq);have other:∀ {b e size n:Nat}{x:Value}{xs:List Value},w.ownsRow b e size x n xs→e≠219→(w.setCell ⟨g,i,none⟩ u).ownsRow b e size x n xs:=fun hr he=>Be hr (fun q hq=>hne q (Az hr hg he q hq));have hr:=h.rows;refine⟨(hne k.B (by omega)).trans h.blk,h.wf,⟨other hr.objs (by decide),hr.ovl,hr.obk,fun q hq=>other (hr.flds q hq) (by decide),other hr.wait (by decide),hr.wwf,other hr.out (by decide),hr.nd,fun q h1 h2 h3=>?_,hr.low.setCell (by simp;omega) _,by simp[World.setCell];exact hr.szs⟩⟩;rw[hne q (by omega)];exact hr.keep q h1 h2 h3
theorem Yb (k:Mc.K) (S:Mc.S) (v:Mc.V) (w:World) (ok:k.Ok) (h:Mc.At k S v w) (hF:Mc.Few S) (hnx:S.now.next≤2000) (hst:S.steps≤100000) (hone:0≤(Mc.one k.E S.now).op∧(Mc.one k.E S.now).op≤25∧0≤(Mc.one k.E S.now).n∧(Mc.one k.E S.now).n≤255) :
  Calls Tryz.prog 86 #[.pointer (some ⟨k.B,0,none⟩)] w fun e w'=>e=.returned (.tuple #[])∧∃ v',Mc.At k (Mc.step k.E S) v' w':=by
 have c37:=h.sees.c37;have f37:=h.sees.fr 37;have h1:Mc.At k ⟨S.read,S.objs,S.now,S.wait,S.ended,S.out,S.status,S.value,S.steps+1⟩ v (w.setCell ⟨k.B,37,none⟩ (.int .i64 ((S.steps:Int)+1))):=h.setPost ok (j:=5) (by omega) _ rfl rfl (by simp[Mc.post]) h.rows;have c12:(w.setCell ⟨k.B,37,none⟩ (.int .i64 ((S.steps:Int)+1))).cell? ⟨k.B,12,none⟩=some (.int .i64 S.now.meth):=h1.sees.c12;have hm:=Ec k _ v S.now.meth _ ok h1;obtain⟨hcl,hc0⟩:=ok.cm S.now.meth;have eS:Mc.step k.E S=Mc.act k.E (Mc.one k.E S.now).op (Mc.one k.E S.now).n (Mc.begun k.E S):=rfl;rw[eS];have eB:Mc.begun k.E S=(⟨S.read,S.objs,S.now,S.wait,S.ended,S.out,S.status,S.value,S.steps+1⟩:Mc.S).withNow ⟨S.now.meth,S.now.next,(Mc.one k.E S.now).place.toNat+Cd.wd (Mc.one k.E S.now).op,S.now.lo,S.now.st,S.now.h⟩:=rfl
 have eO:Mc.one k.E S.now=Cd.orZero (Cd.one (k.E.meth S.now.meth).code S.now.next):=rfl
 rw[eO]at hone eB ⊢;generalize k.E.meth S.now.meth=M at *;have HBG:Hid (∀ w ca cc bb,Mc.At k ⟨S.read,S.objs,S.now,S.wait,S.ended,S.out,S.status,S.value,S.steps+1⟩ v w→IntsAt w bb (.slice ca M.code.length cc) M.code→Calls Tryz.prog 132 #[.pointer (some ⟨k.B,12,none⟩),.slice ca M.code.length cc] w fun e w'=>e=.returned (.agg #[.int .i64 (Cd.orZero (Cd.one M.code S.now.next)).place,.int .i64 (Cd.orZero (Cd.one M.code S.now.next)).op,.int .i64 (Cd.orZero (Cd.one M.code S.now.next)).n]) ∧
   Mc.At k (Mc.begun k.E S) v w'∧Gr k.B w w'):=by
  intro w ca cc bb h hi;refine(Vl S.now M.code ca cc bb k.B 12 156 _ _ w rfl h.wf h.blk hcl (fun x hx=>(hc0 x hx).1) hi hnx).mono fun e w' ⟨he,hM,hg⟩=>⟨he,?_,hg⟩;rw[eB];exact h.now ok hg ⟨h.wf.lo,h.wf.st,h.wf.h⟩ hM
 have hFb:Mc.Few (Mc.begun k.E S):=⟨hF.ob,hF.wt,hF.rd,hF.ou⟩;generalize Mc.begun k.E S=S1 at *;generalize Cd.orZero (Cd.one M.code S.now.next)=one at *
 obtain⟨pl,op,n⟩:=one;simp only at hone HBG ⊢;have hDo:=fun w h=>Adh k S1 v pl op n w ok h ⟨hone.1,hone.2.1⟩ hone.2.2 hFb;have HD:=Ac hDo;have HM:=Ac hm;have H1:=Ac h1;have hlt:=h.blk.lt;clear h h1 hm hDo eS eB eO hF hFb hone hcl hc0;go_enter Tryz.func86,Tryz.ntmps86;go_wp2_with fail
 refine(Aa HM).mono ?_;rintro e w1 ⟨m,rfl,hM,hb1⟩;have h2:=(Aa H1).gr ok hb1;have hcn:=hM.cn;have hcode:=hM.code;obtain⟨m1,m2,m3,m4,m5,m6,m7,m8,m9,ma,mb,mc,md,me,mf,mg,mh,mi⟩:=m;simp only at hcn hcode;subst hcn;simp only[PM.val];have hbA:Below w1.heap.size w1 (w1.alloc (O12 m1 m2 m3 m4 m5 m6 m7 m8 m9 ma M.code.length mc md me mf mg mh mi)):=QN _;have h3:=h2.gr ok hbA;have hcode3:=hcode.kp (Kp.of_below (e:=none) hbA) (by decide);have CQ:=Ad w1 (O12 m1 m2 m3 m4 m5 m6 m7 m8 m9 ma M.code.length mc md me mf mg mh mi);have hQB:w1.heap.size≠k.B:=by have:=h2.blk.lt;omega
 have q7:=(Ab CQ 7).trans (show _=some (.slice ma M.code.length mc) from rfl);have lQ:=lt_of_block CQ;have H3:=Ac h3;have HC3:=Ac hcode3;clear HM hM hb1 h2 H1 h3 hcode hcode3 hbA;go_wp2;generalize w1.alloc (O12 m1 m2 m3 m4 m5 m6 m7 m8 m9 ma M.code.length mc md me mf mg mh mi)=wA at *;refine wp_region_held_drew (S:=(fun w'=>w'.cell? ⟨w1.heap.size,7,none⟩=some (.slice ma M.code.length mc))) (by kernel_rfl) q7 (fun hHeld=>?_);refine wpAnyH_take (i:=0) (oi:=⟨_,_,_,_,_,_⟩) (v:=.pointer (some ⟨k.B,0,none⟩)) rfl (by kernel_rfl) (by kernel_rfl) (by kernel_rfl) (fun _ _ _ h=>h) (Or.inl ⟨by rfl,?_⟩) hHeld ?_
 ·intro w' hSw
  try dsimp only at hSw
  go_simp
 try simp only[QX]
 refine wpAnyH_take (i:=1) (oi:=⟨_,_,_,_,_,_⟩) (v:=.pointer (some ⟨k.B,0,none⟩)) rfl (by kernel_rfl) (by kernel_rfl) (by kernel_rfl) (fun _ _ _ h=>h) (Or.inl ⟨by rfl,?_⟩) hHeld ?_
 ·intro w' hSw
  try dsimp only at hSw
  go_simp
 try simp only[QX]
 refine wpAnyH_take (i:=2) (oi:=⟨_,_,_,_,_,_⟩) (v:=.pointer (some ⟨k.B,12,none⟩)) rfl (by kernel_rfl) (by kernel_rfl) (by kernel_rfl) (fun _ _ _ h=>h) (Or.inl ⟨by rfl,?_⟩) hHeld ?_
 ·intro w' hSw
  try dsimp only at hSw
  go_simp
 try simp only[QX]
 refine wpAnyH_take (i:=3) (oi:=⟨_,_,_,_,_,_⟩) (v:=.pointer (some ⟨w1.heap.size,7,none⟩)) rfl (by kernel_rfl) (by kernel_rfl) (by kernel_rfl) (fun _ _ _ h=>h) (Or.inl ⟨by rfl,?_⟩) hHeld ?_
 ·intro w' hSw
  try dsimp only at hSw
  go_simp
 try simp only[QX]
 refine wpAnyH_take (i:=4) (oi:=⟨_,_,_,_,_,_⟩) (v:=.slice ma M.code.length mc) rfl (by kernel_rfl) (by kernel_rfl) (by kernel_rfl) (fun _ _ _ h=>h) (Or.inl ⟨by rfl,?_⟩) hHeld ?_
 ·intro w' hSw
  try dsimp only at hSw
  go_simp
 try simp only[QX]
 refine wpAnyH_ready (rs:=[5,6]) (by kernel_rfl) (by simp) ?_;refine AllReadyH.cons (o:=⟨_,_,_,_,_,_⟩) rfl (fun K hK=>?_) (AllReadyH.cons (o:=⟨_,_,_,_,_,_⟩) rfl (fun K hK=>?_) AllReadyH.nil)
 ·go_simp
  refine(Aa HBG _ _ _ _ ((Aa H3).drew ok) (show IntsAt wA.drew _ _ _ from Aa HC3)).mono ?_;rintro e w7 ⟨rfl,hA7,hg7⟩;have CQ7:=hg7.own (show wA.drew.heap[_]?=_ from CQ) hQB;have p7:=(Ab CQ7 7).trans (show _=some (.slice ma M.code.length mc) from rfl);have CQ8:=Af CQ7 (O9 0 0 0);have p8:=(Ab CQ8 7).trans (show _=some (.slice ma M.code.length mc) from rfl);have CQ9:=Af CQ7 (O9 pl op n);have p9:=(Ab CQ9 7).trans (show _=some (.slice ma M.code.length mc) from rfl);have hAF:=hA7.gr ok (QN (O9 pl op n))
  try dsimp only
  clear hHeld;refine hK.out _ _ p7 (fun hHeld=>?_);clear hK K
  try simp only[QX]
  refine wpAnyH_ready (rs:=[6]) (by kernel_rfl) (by simp) ?_;refine AllReadyH.cons (o:=⟨_,_,_,_,_,_⟩) rfl (fun K hK=>?_) AllReadyH.nil
  go_simp
  clear hHeld;refine hK.out _ _ p8 (fun hHeld=>?_);clear hK K
  try simp only[QX]
  refine wpAnyH_ready (rs:=[7]) (by kernel_rfl) (by simp) ?_;refine AllReadyH.cons (o:=⟨_,_,_,_,_,_⟩) rfl (fun K hK=>?_) AllReadyH.nil
  go_simp
  clear hHeld;refine hK.out _ _ (by first | exact p9 | simpa using p9) (fun hHeld=>?_)
  clear hK K
  try simp only[QX]
  refine wpAnyH_done (by kernel_rfl) ?_ _;clear hHeld;go_wp2_with fail
  refine(Aa HD _ hAF).mono ?_;rintro e w9 ⟨rfl,v',h9⟩;go_wp2
  go_end0
  exact⟨rfl,v',h9⟩
 ·go_simp
  have hbZ:Below wA.heap.size wA (wA.drew.alloc (O9 0 0 0)):=(Below.refl _ _).drew.alloc (Nat.le_refl _) _;have CQz:=stay hbZ CQ;have p7:=(Ab CQz 7).trans (show _=some (.slice ma M.code.length mc) from rfl);have hZ:(wA.drew.alloc (O9 0 0 0)).heap[wA.heap.size]?=_:=Ad wA.drew (O9 0 0 0);clear hHeld;refine hK.out _ _ p7 (fun hHeld=>?_);clear hK K
  try simp only[QX]
  refine wpAnyH_ready (rs:=[5]) (by kernel_rfl) (by simp) ?_;refine AllReadyH.cons (o:=⟨_,_,_,_,_,_⟩) rfl (fun K hK=>?_) AllReadyH.nil
  go_simp
  refine(Aa HBG _ _ _ _ ((Aa H3).gr ok hbZ) ((Aa HC3).kp (Kp.of_below (e:=none) hbZ) (by decide))).mono ?_;rintro e w7 ⟨rfl,hA7,hg7⟩;have CQ7:=hg7.own CQz hQB;have p8:=(Ab CQ7 7).trans (show _=some (.slice ma M.code.length mc) from rfl);have hZ7:=hg7.own hZ (by have:=(Aa H3).blk.lt;show wA.heap.size≠k.B;omega);have lZ7:=lt_of_block hZ7;have y0:=(Ab hZ7 0).trans (show _=some (.int .i64 0) from rfl);have y1:=(Ab hZ7 1).trans (show _=some (.int .i64 0) from rfl);have y2:=(Ab hZ7 2).trans (show _=some (.int .i64 0) from rfl);obtain⟨x0,x1,x2⟩:=fr3 hZ7
  try dsimp only
  clear hHeld;refine hK.out _ _ p8 (fun hHeld=>?_);clear hK K
  try simp only[QX]
  refine wpAnyH_ready (rs:=[7]) (by kernel_rfl) (by simp) ?_;refine AllReadyH.cons (o:=⟨_,_,_,_,_,_⟩) rfl (fun K hK=>?_) AllReadyH.nil
  go_simp
  have hge:k.w0.heap.size≤wA.heap.size:=(Aa H3).rows.szs;have hA8:=hA7.other ok (cs:=[.int .i64 0,.int .i64 0,.int .i64 0]) hZ7 hge 0 (.int .i64 pl);have hZ8:=Al (i:=0) hZ7 (.int .i64 pl);have hA9:=hA8.other ok (cs:=[.int .i64 pl,.int .i64 0,.int .i64 0]) hZ8 hge 1 (.int .i64 op);have hZ9:=Al (i:=1) hZ8 (.int .i64 op);have hAF:=hA9.other ok (cs:=[.int .i64 pl,.int .i64 op,.int .i64 0]) hZ9 hge 2 (.int .i64 n);have hQZ:w1.heap.size≠wA.heap.size:=by omega
  have CQ9:=((Below.heap_setCell _ ⟨wA.heap.size,2,none⟩ (.int .i64 n) _ hQZ).trans ((Below.heap_setCell _ ⟨wA.heap.size,1,none⟩ (.int .i64 op) _ hQZ).trans ((Below.heap_setCell w7 ⟨wA.heap.size,0,none⟩ (.int .i64 pl) _ hQZ).trans CQ7)));have p9:=(Ab CQ9 7).trans (show _=some (.slice ma M.code.length mc) from rfl);clear hA8 hA9 hZ8 hZ9 hA7;clear hHeld;refine hK.out _ _ (by first | exact p9 | simpa using p9) (fun hHeld=>?_)
  clear hK K
  try simp only[QX]
  refine wpAnyH_done (by kernel_rfl) ?_ _;clear hHeld;go_wp2_with fail
  refine(Aa HD _ hAF).mono ?_;rintro e w9 ⟨rfl,v',h9⟩;go_wp2
  go_end0
  exact⟨rfl,v',h9⟩
def Mc.gv:Nat→List (Int × List Int)
 | 0=>[]
 | j+1=>Mc.gv j++[((j:Int)+2,[])]
def Mc.nv:Nat→List Value
 | 0=>[]
 | j+1=>Mc.nv j++[.slice none 0 0]
theorem Zp:∀ j,(Mc.gv j).length=j
 | 0=>rfl
 | j+1=>by simp[Mc.gv,Zp j]
theorem Zh:∀ j,(Mc.nv j).length=j
 | 0=>rfl
 | j+1=>by simp[Mc.nv,Zh j]
theorem Tb (room:Int) (w:World):Calls Tryz.prog 83 #[.int .i64 room] w fun e w'=>∃ oa oc,e=.returned (.agg #[.slice oa 5 oc,.int .i64 room])∧w'.ownsRow w.heap.size 215 2 (.slice oa 5 oc) 5 (Bb (Mc.gv 5) (Mc.nv 5))∧Below w.heap.size w w':=by
 obtain⟨i0,hi,hz0,hz1,hz2⟩:=info_parts Tryz.infoObj;have hB0:=Ai w (O25 none 0 0 0) (O25 none 0 0 room);have R0:=Ak w (O25 none 0 0 0) (O25 none 0 0 room);have H0:=Ah w (O25 none 0 0 0) (O25 none 0 0 room);go_enter Tryz.func83,Tryz.ntmps83;go_wp2
 go_loopw [4] (fun c wr=>∃ (j:Nat) (oa:Option Addr) (oc:Nat),j≤5∧c=.int .i64 ((j:Int)+2)∧wr.ownsRow (w.heap.size+2) 215 2 (.slice oa j oc) j (Bb (Mc.gv j) (Mc.nv j))∧wr.heap[w.heap.size+1]?=some (O25 oa j oc room)∧wr.heap[w.heap.size]?=some (O25 none 0 0 0)∧Below w.heap.size w wr)
  (fun c _=>7-(intOf c).toNat)
 case atStart=>exact⟨0,none,0,by omega,rfl,World.ownsRow_nil _ _ _ _,H0,R0,hB0⟩
 case round =>
  clear hB0 R0 H0;obtain⟨j,oa,oc,hj,rfl,hO,hH,hR,hB⟩:=hrel;have y0:=(Ab hH 0).trans (show _=some (.slice oa j oc) from rfl);have y1:=(Ab hH 1).trans (show _=some (.int .i64 room) from rfl);have f0:=Ag hH 0;have lH:=lt_of_block hH;have hBs:=hB.size;by_cases hj5:j<5
  ·go_wp2_with (at_builtin;refine wpList_append_own_at _ rfl _ _ 146 rfl (w.heap.size+2) 215 i0 _ 2 32 Tryz.underlying146 hi hz0 hz1 hz2 rfl (by decide) _ _ _ rfl (hO.alloc _) ⟨wr.heap.size,0,none⟩ 1 1 [.int .i64 ((j:Int)+2),.slice none 0 0] rfl rfl ?c1 ?c2 ?c3 ?c4 ?c5 ?_)
   case c1=>exact Ar _ _ _ _ rfl
   case c2=>intro u hu;simp at hu;rcases hu with rfl | rfl<;>rfl
   case c3=>unfold maxLen;omega
   case c4=>omega
   case c5=>simp;omega
   intro v' w2 hown2 hgrow _ hat;obtain⟨oa2,oc2,rfl⟩:=Ae hown2;have hnb:∀ q,q<w.heap.size+2→w2.heap[q]?=wr.heap[q]?:=fun q hq=>(hgrow.block q (by simp;omega) (fun e=>by have:=(hO.lt q e.symm).1;omega)).trans (Below.heap_alloc _ _ _ (by omega));have hH2:=(hnb _ (by omega)).trans hH;have hR2:=(hnb _ (by omega)).trans hR;have hB2:Below w.heap.size w w2:=⟨hgrow.os.trans hB.os,hgrow.tape.trans hB.tape,hgrow.output.trans hB.output,Nat.le_trans hB.size (Nat.le_trans (by simp) hgrow.size),fun q hq=>(hnb q (by omega)).trans (hB.block q hq)⟩;have x0:=(Ab hH2 0).trans (show _=some (.slice oa j oc) from rfl);have g0:=Ag hH2 0;have lH2:=lt_of_block hH2;have hO2:w2.ownsRow (w.heap.size+2) 215 2 (.slice oa2 (j+1) oc2) (j+1) (Bb (Mc.gv (j+1)) (Mc.nv (j+1))):=by
    rw[Mc.gv,Mc.nv,Ik _ _ (by rw[Zp,Zh])];exact hown2
   have hH3:=Al (i:=0) hH2 (.slice oa2 (j+1) oc2);have hO3:(w2.setCell ⟨w.heap.size+1,0,none⟩ (.slice oa2 (j+1) oc2)).ownsRow (w.heap.size+2) 215 2 (.slice oa2 (j+1) oc2) (j+1) (Bb (Mc.gv (j+1)) (Mc.nv (j+1))):=Be hO2 (fun q hq=>Below.heap_setCell _ _ _ _ (by have:=(hO2.lt q hq).1;simp;omega));have hR3:(w2.setCell ⟨w.heap.size+1,0,none⟩ (.slice oa2 (j+1) oc2)).heap[w.heap.size]?=_:=(Below.heap_setCell _ _ _ _ (by simp)).trans hR2;have HB3:=Ac (hB2.setCell (p:=⟨w.heap.size+1,0,none⟩) (by simp) (.slice oa2 (j+1) oc2));have HO3:=Ac hO3;clear hown2 hgrow hat hnb hO2 hO3 hO hB hH hR hB2 hR2;go_wp2
   go_roundw
   case rel=>exact⟨j+1,oa2,oc2,by omega,by go_num,Aa HO3,hH3,hR3,Aa HB3⟩
   case measure=>simp[intOf];omega
  ·have hjj:j=5:=by omega
   subst hjj;obtain⟨r0,r1⟩:=cl2 hR;obtain⟨q0,q1⟩:=fr2 hR;have lR:=lt_of_block hR;simp at r0 r1;have hO3:∀ a b,((wr.setCell ⟨w.heap.size,0,none⟩ a).setCell ⟨w.heap.size,1,none⟩ b).ownsRow w.heap.size 215 2 (.slice oa 5 oc) 5 (Bb (Mc.gv 5) (Mc.nv 5)):=fun a b=>Av (Be hO (fun q hq=>(Below.heap_setCell _ _ _ _ (by have:=(hO.lt q hq).1;simp;omega)).trans (Below.heap_setCell _ _ _ _ (by have:=(hO.lt q hq).1;simp;omega)))) (by omega);have HO3:=Ac hO3;clear hO hO3 hH hR;go_wp2;refine bodyPost_ret (v:=.agg #[.slice oa 5 oc,.int .i64 room]) (by simp[results,Tryz.results83,go_sem,r0,r1]) rfl ?_;exact⟨oa,oc,rfl,Aa HO3 _ _,(hB.setCell (by simp) _).setCell (by simp) _⟩
theorem Tryz.infoMach:(Tryz.prog.info? 156).map (·.size)=some 38:=by kernel_rfl
theorem Abb (p0 p1 p2 p3 p4 p5 p6 p7 p8 p9 p10 a0 a1 a2 a3 a4 a5 a6 a7 a8 a9 b0 b1 b2 b3 b4 b5 b6 b7 b8 b9:Value) (w:World) :
  (Instr.build 156 #[(0,.agg #[p0,p1]),(1,.agg #[p2,p3]),(2,.agg #[p4,p5,p6,p7,p8]),(4,.agg #[p9,p10]),(5,.agg #[a0,a1,a2,a3,a4,a5,a6,a7,a8,a9,b0,b1,b2,b3,b4,b5,b6,b7,b8,b9])]).run Tryz.prog w =
   .ok (.agg #[p0,p1,p2,p3,p4,p5,p6,p7,p8,.int .i64 0,p9,p10,a0,a1,a2,a3,a4,a5,a6,a7,a8,a9,b0,b1,b2,b3,b4,b5,b6,b7,b8,b9,.slice none 0 0,.bool false,.slice none 0 0,.int .i64 0,.int .i64 0,.int .i64 0]) w:=by kernel_rfl
def Mc.cells38 (p0 p1 p2 p3 p4 p5 p6 p7 p8 p9 p10:Value) (c:List Value):List Value:=[p0,p1,p2,p3,p4,p5,p6,p7,p8,.int .i64 0,p9,p10]++(c++[.slice none 0 0,.bool false,.slice none 0 0,.int .i64 0,.int .i64 0,.int .i64 0])
theorem Ad3 (p0 p1 p2 p3 p4 p5 p6 p7 p8 p9 p10:Value) (c:List Value) (h:c.length=20) (w:World) :
  (Instr.build 156 #[(0,.agg #[p0,p1]),(1,.agg #[p2,p3]),(2,.agg #[p4,p5,p6,p7,p8]),(4,.agg #[p9,p10]),(5,.agg c.toArray)]).run Tryz.prog w=.ok (.agg (Mc.cells38 p0 p1 p2 p3 p4 p5 p6 p7 p8 p9 p10 c).toArray) w:=by
 match c,h with
 | [a0,a1,a2,a3,a4,a5,a6,a7,a8,a9,b0,b1,b2,b3,b4,b5,b6,b7,b8,b9],_=>exact Abb _ _ _ _ _ _ _ _ _ _ _ _ _ _ _ _ _ _ _ _ _ _ _ _ _ _ _ _ _ _ _ w
theorem Eg {ops:Array Oper}{S:World→Prop}{op:Oper}{a:Act} (hw:Region.wanted op (yielded ops a.tmps)=true) (x0 x1 x2 x3 x4:Operand) (ho:op.op=.build 156 #[(0,x0),(1,x1),(2,x2),(4,x3),(5,x4)])
  (p0 p1 p2 p3 p4 p5 p6 p7 p8 p9 p10:Value) (c:List Value) (h:c.length=20) (h0:a.eval x0=.agg #[p0,p1]) (h1:a.eval x1=.agg #[p2,p3]) (h2:a.eval x2=.agg #[p4,p5,p6,p7,p8]) (h3:a.eval x3=.agg #[p9,p10]) (h4:a.eval x4=.agg c.toArray) :
  YieldsIf Tryz.prog ops S op (.agg (Mc.cells38 p0 p1 p2 p3 p4 p5 p6 p7 p8 p9 p10 c).toArray) a :=
 .inl ⟨hw,fun w _=>by
  unfold execOp;simp only[ho,List.map_toArray,List.map_cons,List.map_nil,h0,h1,h2,h3,h4,Sem.run_bind,Ad3 p0 p1 p2 p3 p4 p5 p6 p7 p8 p9 p10 c h w,Result.andThen_ok,Sem.run_pure]⟩
def Mc.z38:Obj:=.cells (Mc.cells38 (.slice none 0 0) (.slice none 0 0) (.slice none 0 0) (.slice none 0 0) (.int .i64 0) (.slice none 0 0) (.int .i64 0) (.int .i64 0) (.int .i64 0) (.slice none 0 0) (.int .i64 0) (⟨0,0,0,Mc.zeros,Mc.zeros,0⟩:Mc.Call).cells).toArray 156 (0,0)
theorem Qj (w:World):(Instr.alloc 156 true (.tuple #[])).run Tryz.prog w=.ok (.pointer (some ⟨w.heap.size,0,none⟩)) (w.alloc Mc.z38):=by kernel_rfl
theorem D9 {ops:Array Oper}{o:Oper}{a:Act}{w:World}{K:Act→World→Prop}{Q:Exit→Act→World→Prop}{E:Prop} (hg:o.guard=none) (hop:o.op=.alloc 156)
  (h:K (a.put o.dst (.pointer (some ⟨w.heap.size,0,none⟩))) (w.alloc Mc.z38)):if Region.wanted o (yielded ops a.tmps)=true then Oper.wp Tryz.prog o a w K Q else E:=by
 have hw:Region.wanted o (yielded ops a.tmps)=true:=by simp[Region.wanted,hg]
 rw[if_pos hw];unfold Oper.wp execOp;simp only[hop,Sem.run_bind,Qj,Result.andThen_ok,Sem.run_pure];exact h
structure Mc.Par where
 fa:Option Addr
 fn:Nat
 fc:Nat
 ma:Option Addr
 mc:Nat
 entry:Int
 ia:Option Addr
 ic:Nat
 ins:List Int
 room:Int
 depth:Int
 fuel:Int
 lcs:List (Rd.Cls × Value)
 lms:List (Rd.Mth × MthV)
def Mc.Par.cells (p:Mc.Par) (tg tc:Nat) (ya:Option Addr) (yn yc:Nat) (oa:Option Addr) (oc:Nat) (c:List Value):List Value :=
 Mc.cells38 (.slice p.fa p.fn p.fc) (.slice p.ma p.lms.length p.mc) (.slice (some ⟨tg,0,none⟩) (Tr.tree (p.lcs.map Prod.fst)).length tc) (.slice ya yn yc) (.int .i64 p.entry) (.slice p.ia p.ins.length p.ic) (.int .i64 p.room) (.int .i64 p.depth) (.int .i64 p.fuel) (.slice oa 5 oc) (.int .i64 p.room) c
def Mc.Built (p:Mc.Par) (w wx:World) (B:Nat):Prop:=∃ tg tc ya yc oa oc,
 wx.heap[B]?=some (.cells (p.cells tg tc ya (7+p.lcs.length) yc oa oc (Mc.newCall p.entry []).cells).toArray 156 (0,0))∧TreeIn wx tg (Tr.tree (p.lcs.map Prod.fst))∧tg≠B ∧
 wx.ownsRow w.heap.size 105 1 (.slice ya (7+p.lcs.length) yc) (7+p.lcs.length) (Tr.fvals p.lcs)∧wx.ownsRow w.heap.size 215 2 (.slice oa 5 oc) 5 (Bb (Mc.gv 5) (Mc.nv 5)) ∧
 wx.heap[w.heap.size+1]?=some (O26 p.entry p.ia p.ins.length p.ic p.room p.depth p.fuel)∧wx.heap[w.heap.size+2]?=some (O27 none 0 0 0 0 0)∧Below w.heap.size w wx∧w.heap.size+2<B
theorem Um {w:World}{g h i:Nat}{u v:Value} (h1:w.cell? ⟨g,i,none⟩=some u) (h2:w.cell? ⟨h,i,none⟩=some v) (hne:u≠v):g≠h:=fun e=>by
 subst e;rw[h1]at h2;exact hne (by simpa using h2)
theorem It {p:Mc.Par}{w wd u:World}{B tg tc yn yc oc:Nat}{ya oa:Option Addr} (hS:wd.heap[w.heap.size+1]?=some (O26 p.entry p.ia p.ins.length p.ic p.room p.depth p.fuel)) (hR:wd.heap[w.heap.size+2]?=some (O27 none 0 0 0 0 0)) (hw:Below w.heap.size w wd) (hB:Below wd.heap.size wd u) (hZ:u.heap[B]?=some Mc.z38) (hlt:w.heap.size+2<B)
  (hTr:TreeIn u tg (Tr.tree (p.lcs.map Prod.fst))) (hYr:u.ownsRow w.heap.size 105 1 (.slice ya yn yc) (7+p.lcs.length) (Tr.fvals p.lcs)) (hOb:u.ownsRow w.heap.size 215 2 (.slice oa 5 oc) 5 (Bb (Mc.gv 5) (Mc.nv 5))) :
  Mc.Built p w (u.setRow B (p.cells tg tc ya yn yc oa oc (Mc.newCall p.entry []).cells).toArray) B:=by
 obtain⟨xa,xc,hsh⟩:=Ae hYr;simp only[Value.slice.injEq]at hsh;obtain⟨rfl,rfl,rfl⟩:=hsh;have hbw:=QB hw hB;have hne:∀ j,j≠B→(u.setRow B (p.cells tg tc ya (7+p.lcs.length) yc oa oc (Mc.newCall p.entry []).cells).toArray).heap[j]?=u.heap[j]?:=fun j hj=>Aj hj;have htl:0<(Tr.tree (p.lcs.map Prod.fst)).length:=by rw[Br];omega
 have hB0:u.cell? ⟨B,0,none⟩=some (.slice none 0 0):=(Ab hZ 0).trans rfl;have htB:tg≠B:=Um (hTr.2 0 htl) hB0 (by simp);have hZ':u.heap[B]?=some (.cells (Mc.cells38 (.slice none 0 0) (.slice none 0 0) (.slice none 0 0) (.slice none 0 0) (.int .i64 0) (.slice none 0 0) (.int .i64 0) (.int .i64 0) (.int .i64 0) (.slice none 0 0) (.int .i64 0) (⟨0,0,0,Mc.zeros,Mc.zeros,0⟩:Mc.Call).cells).toArray 156 (0,0)):=hZ;refine⟨tg,tc,ya,yc,oa,oc,Ce hZ',⟨by rw[setRow_size];exact hTr.1,fun i hi=>(World.cell?_of_block (a:=⟨tg,i,none⟩) (hne tg htB)).trans (hTr.2 i hi)⟩,htB,Be hYr (fun j hj=>hne j (Az hYr hZ' (by decide) j hj)),Be hOb (fun j hj=>hne j (Az hOb hZ' (by decide) j hj)),
  (hne _ (by omega)).trans ((hB.block _ (lt_of_block hS)).trans hS),(hne _ (by omega)).trans ((hB.block _ (lt_of_block hR)).trans hR),?_,hlt⟩
 exact⟨hbw.os,hbw.tape,hbw.output,by rw[setRow_size];exact hbw.size,fun j hj=>(hne j (by omega)).trans (hbw.block j hj)⟩
def Mc.Par.E (p:Mc.Par):Mc.E:=⟨Tr.tree (p.lcs.map Prod.fst),(Ahl p.lcs).map Prod.snd,p.lms.map Prod.fst,p.ins,p.room,p.depth⟩
structure Mc.Par.Good (p:Mc.Par) (w:World) (bc bm:Nat):Prop where
 cs:ClssIn w bc (.slice p.fa p.fn p.fc) p.lcs
 c6:p.lcs.length≤6
 ff:∀ q∈p.lcs,q.1.fields.length≤10
 ms:MthsIn w bm (.slice p.ma p.lms.length p.mc) p.lms
 ml:p.lms.length≤1000
 cd:∀ q∈p.lms,q.1.code.length≤1000∧∀ x∈q.1.code,0≤x∧x≤255
 ps:∀ q∈p.lms,q.1.params.length≤10
 hn:∀ q∈p.lms,q.1.handlers.length≤1000∧∀ h∈q.1.handlers,0≤h.target∧h.target≤1000
 ins:IntR w p.ia p.ins
 il:p.ins.length≤1000
 dep:1≤p.depth∧p.depth≤12
 rm:0≤p.room∧p.room≤30
 fu:0≤p.fuel∧p.fuel≤3000
theorem Abr {p:Mc.Par}{w wx:World}{B bc bm:Nat} (hg:p.Good w bc bm) (h:Mc.Built p w wx B) :
  ∃ (k:Mc.K) (v:Mc.V),k.Ok∧k.B=B∧k.wE=w∧k.w0=wx∧k.E=p.E∧k.fuel=p.fuel∧Mc.At k (Mc.start p.entry) v wx ∧
   wx.heap[w.heap.size+1]?=some (O26 p.entry p.ia p.ins.length p.ic p.room p.depth p.fuel)∧wx.heap[w.heap.size+2]?=some (O27 none 0 0 0 0 0)∧k.ob≠w.heap.size+1∧k.ob≠w.heap.size+2∧w.heap.size+2<B:=by
 obtain⟨tg,tc,ya,yc,oa,oc,hBl,hTr,htB,hYr,hOb,hS,hR,hBw,hlt⟩:=h;obtain⟨ob,hob,hobl,hobg,hobc⟩:=Ao hOb (by omega);have hobB:∃ cs:List Value,wx.heap[ob]?=some (.cells cs.toArray 215 (0,0)):=by
  obtain⟨_,⟨_,hn⟩|⟨g',cap,cur,hv,_,hgg,_⟩⟩:=hOb
  ·omega
  ·rw[hob]at hv;simp only[Value.slice.injEq,Option.some.injEq,Addr.mk.injEq,and_true]at hv;obtain⟨rfl,_⟩:=hv;exact⟨cur.toList,by simpa using hgg⟩
 obtain⟨ocs,hobB⟩:=hobB;have hTl:(Tr.tree (p.lcs.map Prod.fst)).length=7+p.lcs.length:=by rw[Br,List.length_map]
 have hc6:=hg.c6;have hob0:wx.cell? ⟨ob,0,none⟩=some (.int .i64 2):=by rw[hobc 0 (by decide)];rfl
 have htg0:wx.cell? ⟨tg,0,none⟩=some (.int .i64 (-1)):=by rw[hTr.2 0 (by omega)];rfl
 have hfl:=Hf p.lcs;have hTy:∀ q∈Ahl p.lcs,TyR w q.1 q.2∧q.2.length≤10:=by
  intro q hq;unfold Ahl at hq;rcases List.mem_append.1 hq with hq | hq
  ·obtain⟨_,rfl⟩:=List.mem_replicate.1 hq;exact⟨TyR.nil _,by simp⟩
  ·obtain⟨x,hx,rfl⟩:=List.mem_map.1 hq;exact⟨TyR.of_tys (hg.cs.2 x hx),hg.ff x hx⟩
 have hYr':wx.ownsRow w.heap.size 105 1 (.slice ya (Ahl p.lcs).length yc) (Ahl p.lcs).length ((Ahl p.lcs).map Prod.fst):=by rw[Qz,hfl];exact hYr
 refine⟨⟨B,ob,wx,w,p.fa,p.fn,p.fc,p.ma,p.mc,tg,tc,ya,yc,bm,w.heap.size,Tr.tree (p.lcs.map Prod.fst),Ahl p.lcs,p.lms,p.entry,p.ia,p.ic,p.ins,p.room,p.depth,p.fuel⟩,⟨oa,oc,none,0,none,0,Mc.nv 5⟩,?_,rfl,rfl,rfl,rfl,rfl,?_,hS,hR,?_,?_,hlt⟩
 ·exact⟨hTr,by show (Tr.tree _).length≤1000;omega,⟨hYr',fun q hq=>(hTy q hq).1.below hBw⟩,by show (Ahl p.lcs).length≤14;omega,fun q hq=>(hTy q hq).2,hg.ms,hg.ml,hg.cd,hg.ps,hg.hn,hg.ins,hg.il,hg.dep,hg.rm,hg.fu,
   ⟨htB,Um htg0 hob0 (by simp)⟩,fun j hj=>⟨Az hYr' hBl (by decide) j hj,Az hYr' hobB (by decide) j hj⟩,
   fun q hq j hj=>by have:=(hTy q hq).1.blk_lt hj;exact⟨by show j≠B;omega,by show j≠ob;omega⟩,hBw.size,⟨lt_of_block hBl,hobl,by show w.heap.size≤B;omega,hobg⟩⟩
 ·refine⟨?_,Gj _ _,⟨?_,rfl,fun j hj=>?_,fun i hi=>?_,World.ownsRow_nil _ _ _ _,fun c hc=>by simp[Mc.start]at hc,World.ownsRow_nil _ _ _ _,(show ([]:List Nat).Nodup from List.nodup_nil),fun _ _ _ _=>rfl,hBw,Nat.le_refl _⟩⟩
  ·unfold Mid;rw[hBl];simp only[Mc.Par.cells,Mc.cells38,Mc.pre,Mc.post,Mc.start,hfl];rfl
  ·exact hOb
  ·have:some ob=some j:=by rw[← hj];show _=(Value.slice oa _ oc).ownBlock;rw[hob];rfl
   exact .inl (by simpa using this.symm)
  ·have hi':i<5:=hi;have:i=0∨i=1∨i=2∨i=3∨i=4:=by omega
   rcases this with rfl|rfl|rfl|rfl|rfl<;>exact World.ownsRow_nil _ _ _ _
 ·intro e;have h1:wx.heap[ob]?=_:=hobB;rw[show ob=w.heap.size+1 from e,hS]at h1;simp at h1
 ·intro e;have h1:wx.heap[ob]?=_:=hobB;rw[show ob=w.heap.size+2 from e,hR]at h1;simp at h1
end Go.Proofs.YtpcgnjolfahacaaGreat
