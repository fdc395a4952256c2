/- a part of the proofs -/
import Derived.Deep.Cut
import Derived.Test.YtpcgnjolfahacaaGreatPk14
set_option maxRecDepth 100000
set_option maxHeartbeats 40000000
set_option linter.unusedVariables false
set_option linter.unusedSimpArgs false
namespace Go.Proofs.YtpcgnjolfahacaaGreat
open Go.RowKit
structure Lw (S G:Nat) (w w':World):Prop where
 os:w'.os=w.os
 tape:w'.tape=w.tape
 output:w'.output=w.output
 size:w.heap.size≤w'.heap.size
 block:∀ k,k<w.heap.size→k≠S→k≠G→w'.heap[k]?=w.heap[k]?
 tys:∀ (k:Nat) (cs:Array Value),w.heap[k]?=some (.cells cs 31 (0,0))→w'.heap[k]?=some (.cells cs 31 (0,0))
theorem Lw.refl (S G:Nat) (w:World):Lw S G w w:=⟨rfl,rfl,rfl,Nat.le_refl _,fun _ _ _ _=>rfl,fun _ _ h=>h⟩
theorem Lw.trans {S G:Nat}{a b c:World} (h:Lw S G a b) (k:Lw S G b c):Lw S G a c :=
 ⟨k.os.trans h.os,k.tape.trans h.tape,k.output.trans h.output,Nat.le_trans h.size k.size,fun i hi h1 h2=>(k.block i (Nat.lt_of_lt_of_le hi h.size) h1 h2).trans (h.block i hi h1 h2),fun p n hp=>k.tys p n (h.tys p n hp)⟩
theorem Lw.of_below {S G:Nat}{w w':World} (h:Below w.heap.size w w'):Lw S G w w' :=
 ⟨h.os,h.tape,h.output,h.size,fun k hk _ _=>h.block k hk,fun p n hp=>(h.block p (lt_of_block hp)).trans hp⟩
theorem Lw.below {S G B:Nat}{w w':World} (h:Lw S G w w') (hS:B≤S) (hG:B≤G) (hB:B≤w.heap.size):Below B w w':=⟨h.os,h.tape,h.output,h.size,fun k hk=>h.block k (by omega) (by omega) (by omega)⟩
theorem Lw.set {S G:Nat}{w:World}{p:Addr}{cs0:Array Value}{t0:TypeId} (hp:p.block=S∨p.block=G) (h0:w.heap[p.block]?=some (.cells cs0 t0 (0,0))) (ht:t0≠31) (u:Value):Lw S G w (w.setCell p u) :=
 ⟨rfl,rfl,rfl,by simp[World.setCell],fun k _ h1 h2=>Below.heap_setCell _ _ _ _ (by rcases hp with h | h<;>rw[h]<;>assumption),fun q cs hq=>by
  have hne:q≠p.block:=by
   intro e;subst e;rw[h0]at hq;simp only[Option.some.injEq,Obj.cells.injEq]at hq;exact ht hq.2.1
  exact(Below.heap_setCell _ _ _ _ hne).trans hq⟩
theorem TyR.lw {S G:Nat}{w w':World}{v:Value}{l:List (Int × Int)} (h:TyR w v l) (k:Lw S G w w'):TyR w' v l:=by
 rcases h with h|⟨g,o,c,cur,hv,hg,h1,h2,h3⟩
 ·exact .inl h
 ·refine .inr ⟨g,o,c,cur,hv,k.tys g cur hg,h1,h2,fun j x hx=>?_⟩;rw[Ab (k.tys g cur hg),← Ab hg];exact h3 j x hx
theorem FrV.is.lw {S G:Nat}{v:FrV}{x:Afb}{w w':World} (h:v.is x w) (k:Lw S G w w'):v.is x w':=⟨h.lo.lw k,h.st.lw k,h.hl,h.hs⟩
structure SpC (cs:Array Value) (i:Nat) (v:FrV) (p:Aik):Prop where
 c0:cs[i*5]?=some (.slice v.la v.ln v.lc)
 c1:cs[i*5+1]?=some (.slice v.sa v.sn v.sc)
 c2:cs[i*5+2]?=some (.bool p.st)
 c3:cs[i*5+3]?=some (.bool p.ri)
 c4:cs[i*5+4]?=some (.bool p.wa)
structure LsAt (w:World) (S G:Nat) (b:PBd) (gc:Nat) (s:Afd):Prop where
 blk:w.heap[S]?=some (O21 (some ⟨b.tg,0,none⟩) b.T.length b.tc b.ya b.yn b.yc b.cl b.nm b.pa b.pl b.pc b.r1 b.r2 b.lo b.st b.ca b.cn b.cc b.ha b.hl b.hc b.ma b.ml b.mc b.la b.L.length b.lc b.fa1 b.fl1 b.fc1 b.fa2 b.fl2 b.fc2 (some ⟨b.tg,0,none⟩) b.T.length b.tc b.ya b.yn b.yc b.cl b.nm b.pa b.pl b.pc b.r1 b.r2 b.lo b.st b.ca b.cn b.cc b.ha b.hl b.hc b.ma b.ml b.mc b.la b.L.length b.lc (some ⟨G,0,none⟩) s.sp.length gc s.hop)
 spt:∃ cs,w.heap[G]?=some (.cells cs 260 (0,0))∧cs.size=s.sp.length*5∧∀ i,i<s.sp.length→∃ v:FrV,SpC cs i v (s.at i)∧v.is (s.at i).fr w
 ne:S≠G
 len:s.sp.length≤1000
 cap:s.sp.length≤gc∧gc≤1000
theorem LsAt.below {w w':World}{S G:Nat}{b:PBd}{gc:Nat}{s:Afd} (h:LsAt w S G b gc s) (hb:Below w.heap.size w w'):LsAt w' S G b gc s:=by
 obtain⟨cs,h1,h2,h3⟩:=h.spt;exact⟨stay hb h.blk,⟨cs,stay hb h1,h2,fun i hi=>by obtain⟨v,a,c⟩:=h3 i hi;exact⟨v,a,c.below hb⟩⟩,h.ne,h.len,h.cap⟩
theorem LsAt.at {w:World}{S G:Nat}{b:PBd}{gc:Nat}{s:Afd} (h:LsAt w S G b gc s) {i:Nat} (hi:i<s.sp.length):∃ v:FrV,v.is (s.at i).fr w∧w.cell? ⟨G,i*5,none⟩=some (.slice v.la v.ln v.lc)∧w.cell? ⟨G,i*5+1,none⟩=some (.slice v.sa v.sn v.sc) ∧
  w.cell? ⟨G,i*5+2,none⟩=some (.bool (s.at i).st)∧w.cell? ⟨G,i*5+3,none⟩=some (.bool (s.at i).ri)∧w.cell? ⟨G,i*5+4,none⟩=some (.bool (s.at i).wa):=by
 obtain⟨cs,h1,h2,h3⟩:=h.spt;obtain⟨v,a,c⟩:=h3 i hi;exact⟨v,c,by rw[Ab h1];exact a.c0,by rw[Ab h1];exact a.c1,by rw[Ab h1];exact a.c2,by rw[Ab h1];exact a.c3,by rw[Ab h1];exact a.c4⟩
theorem LsAt.stop {w:World}{S G:Nat}{b:PBd}{gc:Nat}{s:Afd} (h:LsAt w S G b gc s):LsAt (w.setCell ⟨S,29,none⟩ (.bool true)) S G b gc s.stop∧Lw S G w (w.setCell ⟨S,29,none⟩ (.bool true)):=by
 have k:Lw S G w (w.setCell ⟨S,29,none⟩ (.bool true)):=Lw.set (p:=⟨S,29,none⟩) (.inl rfl) h.blk (by decide) _;obtain⟨cs,h1,h2,h3⟩:=h.spt;refine⟨⟨?_,⟨cs,?_,h2,fun i hi=>?_⟩,h.ne,h.len,h.cap⟩,k⟩
 ·rw[Al h.blk];rfl
 ·exact(Below.heap_setCell _ _ _ _ (fun e=>h.ne e.symm)).trans h1
 ·obtain⟨v,a,c⟩:=h3 i hi;exact⟨v,a,c.lw k⟩
theorem Ib (s:Afd) (q:Nat) (p:Aik) (hq:q<s.sp.length) (hop:Bool) (i:Nat):(⟨s.sp.set q p,hop⟩:Afd).at i=if i=q then p else s.at i:=by
 unfold Afd.at;simp only[List.getD_eq_getElem?_getD,List.getElem?_set];by_cases e:q=i
 ·subst e;simp[hq]
 ·rw[if_neg e,if_neg (fun h=>e h.symm)]
theorem LsAt.set {w:World}{S G:Nat}{b:PBd}{gc:Nat}{s:Afd} (h:LsAt w S G b gc s) {q j:Nat} (hq:q<s.sp.length) (hj:j<5) (u:Value) (p:Aik)
  (hu:∀ cs v,SpC cs q v (s.at q)→cs.size=s.sp.length*5→v.is (s.at q).fr w→∃ v',SpC (cs.setIfInBounds (q*5+j) u) q v' p∧(v'.is p.fr w)) :
  LsAt (w.setCell ⟨G,q*5+j,none⟩ u) S G b gc ⟨s.sp.set q p,s.hop⟩∧Lw S G w (w.setCell ⟨G,q*5+j,none⟩ u):=by
 obtain⟨cs,h1,h2,h3⟩:=h.spt;have k:Lw S G w (w.setCell ⟨G,q*5+j,none⟩ u):=Lw.set (p:=⟨G,q*5+j,none⟩) (.inr rfl) h1 (by decide) _;refine⟨⟨?_,⟨_,Al h1 u,by simpa using h2,fun i hi=>?_⟩,h.ne,by simpa using h.len,by simpa using h.cap⟩,k⟩
 ·refine(Below.heap_setCell _ _ _ _ (fun e=>h.ne e)).trans ?_
  simpa using h.blk
 ·simp only[List.length_set]at hi;rw[Ib s q p hq];by_cases e:i=q
  ·subst e;rw[if_pos rfl];obtain⟨v,a,c⟩:=h3 i hq;obtain⟨v',a',c'⟩:=hu cs v a h2 c;exact⟨v',a',c'.lw k⟩
  ·rw[if_neg e];obtain⟨v,a,c⟩:=h3 i hi;refine⟨v,⟨?_,?_,?_,?_,?_⟩,c.lw k⟩
   all_goals rw[Array.getElem?_setIfInBounds_ne (by omega)]
   ·exact a.c0
   ·exact a.c1
   ·exact a.c2
   ·exact a.c3
   ·exact a.c4
theorem Ha {cs:Array Value}{i:Nat} (h:i<cs.size) (u:Value):(cs.setIfInBounds i u)[i]?=some u:=by rw[Array.getElem?_setIfInBounds_self,if_pos h]
theorem Bi {cs:Array Value}{i k:Nat} (h:i≠k) (u:Value):(cs.setIfInBounds i u)[k]?=cs[k]?:=Array.getElem?_setIfInBounds_ne h
theorem LsAt.st {w:World}{S G:Nat}{b:PBd}{gc:Nat}{s:Afd} (h:LsAt w S G b gc s) {q:Nat} (hq:q<s.sp.length) (t:Bool):LsAt (w.setCell ⟨G,q*5+2,none⟩ (.bool t)) S G b gc ⟨s.sp.set q ⟨(s.at q).fr,t,(s.at q).ri,(s.at q).wa⟩,s.hop⟩∧Lw S G w (w.setCell ⟨G,q*5+2,none⟩ (.bool t)) :=
 h.set hq (by omega) _ _ fun cs v a hs c=>⟨v,⟨by rw[Bi (by omega)];exact a.c0,by rw[Bi (by omega)];exact a.c1,Ha (by omega) _,by rw[Bi (by omega)];exact a.c3,by rw[Bi (by omega)];exact a.c4⟩,c⟩
theorem LsAt.ri {w:World}{S G:Nat}{b:PBd}{gc:Nat}{s:Afd} (h:LsAt w S G b gc s) {q:Nat} (hq:q<s.sp.length) (t:Bool):LsAt (w.setCell ⟨G,q*5+3,none⟩ (.bool t)) S G b gc ⟨s.sp.set q ⟨(s.at q).fr,(s.at q).st,t,(s.at q).wa⟩,s.hop⟩∧Lw S G w (w.setCell ⟨G,q*5+3,none⟩ (.bool t)) :=
 h.set hq (by omega) _ _ fun cs v a hs c=>⟨v,⟨by rw[Bi (by omega)];exact a.c0,by rw[Bi (by omega)];exact a.c1,by rw[Bi (by omega)];exact a.c2,Ha (by omega) _,by rw[Bi (by omega)];exact a.c4⟩,c⟩
theorem LsAt.wa {w:World}{S G:Nat}{b:PBd}{gc:Nat}{s:Afd} (h:LsAt w S G b gc s) {q:Nat} (hq:q<s.sp.length) (t:Bool):LsAt (w.setCell ⟨G,q*5+4,none⟩ (.bool t)) S G b gc ⟨s.sp.set q ⟨(s.at q).fr,(s.at q).st,(s.at q).ri,t⟩,s.hop⟩∧Lw S G w (w.setCell ⟨G,q*5+4,none⟩ (.bool t)) :=
 h.set hq (by omega) _ _ fun cs v a hs c=>⟨v,⟨by rw[Bi (by omega)];exact a.c0,by rw[Bi (by omega)];exact a.c1,by rw[Bi (by omega)];exact a.c2,by rw[Bi (by omega)];exact a.c3,Ha (by omega) _⟩,c⟩
theorem LsAt.fr {w:World}{S G:Nat}{b:PBd}{gc:Nat}{s:Afd} (h:LsAt w S G b gc s) {q:Nat} (hq:q<s.sp.length) {u:FrV}{y:Afb} (hu:u.is y w) :
  LsAt ((w.setCell ⟨G,q*5,none⟩ (.slice u.la u.ln u.lc)).setCell ⟨G,q*5+1,none⟩ (.slice u.sa u.sn u.sc)) S G b gc ⟨s.sp.set q ⟨y,(s.at q).st,(s.at q).ri,(s.at q).wa⟩,s.hop⟩ ∧
  Lw S G w ((w.setCell ⟨G,q*5,none⟩ (.slice u.la u.ln u.lc)).setCell ⟨G,q*5+1,none⟩ (.slice u.sa u.sn u.sc)):=by
 obtain⟨g1,k1⟩:=h.set (j:=0) hq (by omega) (.slice u.la u.ln u.lc) ⟨⟨y.locals,(s.at q).fr.stack⟩,(s.at q).st,(s.at q).ri,(s.at q).wa⟩ fun cs v a hs c =>
  ⟨⟨u.la,u.ln,u.lc,v.sa,v.sn,v.sc⟩,⟨Ha (by omega) _,by rw[Bi (by omega)];exact a.c1,by rw[Bi (by omega)];exact a.c2,by rw[Bi (by omega)];exact a.c3,by rw[Bi (by omega)];exact a.c4⟩,⟨hu.lo,c.st,hu.hl,c.hs⟩⟩
 have e:=Ib s q ⟨⟨y.locals,(s.at q).fr.stack⟩,(s.at q).st,(s.at q).ri,(s.at q).wa⟩ hq s.hop q;rw[if_pos rfl]at e;have hu1:=hu.lw k1;obtain⟨g2,k2⟩:=g1.set (j:=1) (q:=q) (by simpa using hq) (by omega) (.slice u.sa u.sn u.sc) ⟨y,(s.at q).st,(s.at q).ri,(s.at q).wa⟩ fun cs v a hs c=>by
  rw[e]at a c;simp only[List.length_set]at hs;exact⟨⟨v.la,v.ln,v.lc,u.sa,u.sn,u.sc⟩,⟨by rw[Bi (by omega)];exact a.c0,Ha (by omega) _,by rw[Bi (by omega)];exact a.c2,by rw[Bi (by omega)];exact a.c3,by rw[Bi (by omega)];exact a.c4⟩,⟨c.lo,hu1.st,c.hl,hu1.hs⟩⟩
 simp only[List.set_set]at g2;exact⟨g2,k1.trans k2⟩
theorem LsAt.put2 {w:World}{S G:Nat}{b:PBd}{gc:Nat}{s:Afd}{q:Nat}{y:Afb} (hq:q<s.sp.length) (g1:LsAt w S G b gc ⟨s.sp.set q ⟨y,(s.at q).st,(s.at q).ri,(s.at q).wa⟩,s.hop⟩) :
  LsAt ((w.setCell ⟨G,q*5+2,none⟩ (.bool true)).setCell ⟨G,q*5+3,none⟩ (.bool true)) S G b gc (s.put q y)∧Lw S G w ((w.setCell ⟨G,q*5+2,none⟩ (.bool true)).setCell ⟨G,q*5+3,none⟩ (.bool true)):=by
 obtain⟨g2,k2⟩:=g1.st (q:=q) (by simpa using hq) true;have e1:=Ib s q ⟨y,(s.at q).st,(s.at q).ri,(s.at q).wa⟩ hq s.hop q;rw[if_pos rfl]at e1;rw[e1]at g2;simp only[List.set_set]at g2;obtain⟨g3,k3⟩:=g2.ri (q:=q) (by simpa using hq) true;have e2:=Ib s q ⟨y,true,(s.at q).ri,(s.at q).wa⟩ hq s.hop q;rw[if_pos rfl]at e2;rw[e2]at g3;simp only[List.set_set]at g3;exact⟨g3,k2.trans k3⟩
theorem LsAt.free {w:World}{S G:Nat}{b:PBd}{gc:Nat}{s:Afd} (h:LsAt w S G b gc s) (i:Nat):w.frozen? ⟨G,i,none⟩=false∧G<w.heap.size:=by
 obtain⟨cs,h1,_⟩:=h.spt;exact⟨Ag h1 i,lt_of_block h1⟩
theorem LsAt.put1 {w:World}{S G:Nat}{b:PBd}{gc:Nat}{s:Afd}{q:Nat}{y:Afb} (hq:q<s.sp.length) (g1:LsAt w S G b gc ⟨s.sp.set q ⟨y,(s.at q).st,(s.at q).ri,(s.at q).wa⟩,s.hop⟩) :
  w.cell? ⟨S,28,none⟩=some (.slice (some ⟨G,0,none⟩) s.sp.length gc)∧S<w.heap.size∧w.cell? ⟨G,q*5+2,none⟩=some (.bool (s.at q).st)∧w.cell? ⟨G,q*5+3,none⟩=some (.bool (s.at q).ri)∧w.frozen? ⟨G,q*5+2,none⟩=false∧w.frozen? ⟨G,q*5+3,none⟩=false∧G<w.heap.size:=by
 obtain⟨u,_,_,_,z2,z3,_⟩:=g1.at (i:=q) (by simpa using hq);rw[Ib s q _ hq,if_pos rfl]at z2 z3;have x28:=Ab g1.blk 28;simp at x28;exact⟨x28,lt_of_block g1.blk,z2,z3,(g1.free _).1,(g1.free _).1,(g1.free 0).2⟩
theorem LsAt.box {w:World}{S G:Nat}{b:PBd}{gc:Nat}{s:Afd} (h:LsAt w S G b gc s) {g:Nat}{a1 a2:Option Addr}{n1 c1 n2 c2:Nat}{ty:TypeId} (hg:w.heap[g]?=some (.cells #[.slice a1 n1 c1,.slice a2 n2 c2] ty (0,0))) (h1:g≠S) (h2:g≠G) (x y:Value):LsAt ((w.setCell ⟨g,0,none⟩ x).setCell ⟨g,1,none⟩ y) S G b gc s:=by
 obtain⟨cs,e1,e2,e3⟩:=h.spt;exact⟨(Dm (fun e=>h1 e.symm)).trans h.blk,⟨cs,(Dm (fun e=>h2 e.symm)).trans e1,e2,fun i hi=>by obtain⟨v,a,c⟩:=e3 i hi;exact⟨v,a,c.set2 hg _ _⟩⟩,h.ne,h.len,h.cap⟩
theorem Lw.box {S G:Nat}{w w':World} (h:Lw S G w w') {g:Nat} (hg:w.heap.size≤g) (x y:Value):Lw S G w ((w'.setCell ⟨g,0,none⟩ x).setCell ⟨g,1,none⟩ y) :=
 ⟨h.os,h.tape,h.output,by have:=h.size;simpa[World.setCell] using this,fun k hk e1 e2=>(Dm (by omega)).trans (h.block k hk e1 e2),fun p cs hp=>by
  have:=lt_of_block hp;exact(Dm (by omega)).trans (h.tys p cs hp)⟩
theorem Io (b:PBd) (S G gc:Nat) (s:Afd) (v:FrV) (x:Afb) (q:Int) (w:World) (hl:b.T.length≤1000) (hT:TreeIn w b.tg b.T) (h:LsAt w S G b gc s) (hv:v.is x w) :
  Calls Tryz.prog 111 #[.pointer (some ⟨S,0,none⟩),v.val,.int .i64 q] w fun e w'=>e=.returned (.tuple #[])∧LsAt w' S G b gc (Afo b.T b.st x q s)∧Lw S G w w':=by
 obtain⟨la,ln,lc,sa,sn,sc⟩:=v;obtain⟨esn,-,-⟩:=hv.st.cap;obtain⟨eln,-,-⟩:=hv.lo.cap;obtain⟨xl,xs⟩:=x;simp only at esn eln;subst esn eln;have hb1:Below w.heap.size w (w.alloc (O18 la xl.length lc sa xs.length sc)):=QN _;have h1:=h.below hb1;have A1:=Ad w (O18 la xl.length lc sa xs.length sc);have k1:Lw S G w (w.alloc (O18 la xl.length lc sa xs.length sc)):=Lw.of_below hb1;have hv1:=hv.below hb1;have hT1:=hT.below hb1;obtain⟨a0,a1⟩:=cl2 A1;have x0:=Ab h1.blk 0;have x1:=Ab h1.blk 1;have x8:=Ab h1.blk 8;have x28:=Ab h1.blk 28;have x29:=Ab h1.blk 29;have f29:=Ag h1.blk 29;have lS:=lt_of_block h1.blk;simp at a0 a1 x0 x1 x8 x28 x29;have hlen:=h.len;have hSw:S<w.heap.size:=lt_of_block h.blk;have hGw:G<w.heap.size:=(h.free 0).2;have hcap:=h.cap;unfold Afo;simp only[FrV.val];by_cases c1:q<0
 ·rw[if_pos (.inl c1)];clear h hv hv1 hT hT1;go_enter Tryz.func111,Tryz.ntmps111;go_wp2
  go_quiet (fail)
  rename_i nq;have hbq:Below (w.alloc (O18 la xl.length lc sa xs.length sc)).heap.size (w.alloc (O18 la xl.length lc sa xs.length sc)) ((w.alloc (O18 la xl.length lc sa xs.length sc)).drewN nq):=Ba (Below.refl _ _);have h2:=h1.below hbq;have z29:=Ab h2.blk 29;have q29:=Ag h2.blk 29;have lS2:=lt_of_block h2.blk;simp at z29;obtain⟨g3,k3⟩:=h2.stop;have K3:=(k1.trans (Lw.of_below hbq)).trans k3;clear h1 h2 k1 k3 hbq;go_wp2;refine bodyPost_ret (v:=.tuple #[]) (by simp[results,Tryz.results111,go_sem]) rfl ?_;exact⟨rfl,g3,K3⟩
 ·obtain⟨k,rfl⟩:∃ k:Nat,q=(k:Int):=⟨q.toNat,by omega⟩;have d1:decide ((k:Int)<0)=false:=decide_eq_false c1;by_cases c2:(s.sp.length:Int)≤(k:Int)
  ·rw[if_pos (.inr (.inl c2))];clear h hv hv1 hT hT1;go_enter Tryz.func111,Tryz.ntmps111;go_wp2
   go_quiet (fail)
   rename_i nq;have hbq:Below (w.alloc (O18 la xl.length lc sa xs.length sc)).heap.size (w.alloc (O18 la xl.length lc sa xs.length sc)) ((w.alloc (O18 la xl.length lc sa xs.length sc)).drewN nq):=Ba (Below.refl _ _);have h2:=h1.below hbq;have z29:=Ab h2.blk 29;have q29:=Ag h2.blk 29;have lS2:=lt_of_block h2.blk;simp at z29;obtain⟨g3,k3⟩:=h2.stop;have K3:=(k1.trans (Lw.of_below hbq)).trans k3;clear h1 h2 k1 k3 hbq;go_wp2;refine bodyPost_ret (v:=.tuple #[]) (by simp[results,Tryz.results111,go_sem]) rfl ?_;exact⟨rfl,g3,K3⟩
  ·have d2:decide (s.sp.length≤k)=false:=decide_eq_false (by omega);by_cases c3:b.st<(xs.length:Int)
   ·rw[if_pos (.inr (.inr c3))];clear h hv hv1 hT hT1;go_enter Tryz.func111,Tryz.ntmps111;go_wp2
    go_quiet (fail)
    rename_i nq;have hbq:Below (w.alloc (O18 la xl.length lc sa xs.length sc)).heap.size (w.alloc (O18 la xl.length lc sa xs.length sc)) ((w.alloc (O18 la xl.length lc sa xs.length sc)).drewN nq):=Ba (Below.refl _ _);have h2:=h1.below hbq;have z29:=Ab h2.blk 29;have q29:=Ag h2.blk 29;have lS2:=lt_of_block h2.blk;simp at z29;obtain⟨g3,k3⟩:=h2.stop;have K3:=(k1.trans (Lw.of_below hbq)).trans k3;clear h1 h2 k1 k3 hbq;go_wp2;refine bodyPost_ret (v:=.tuple #[]) (by simp[results,Tryz.results111,go_sem]) rfl ?_;exact⟨rfl,g3,K3⟩
   ·rw[if_neg (by omega)];have d3:decide (b.st<(xs.length:Int))=false:=decide_eq_false c3;have hk:k<s.sp.length:=by omega
    have kb:(k:Int)<(s.sp.length:Int):=by omega
    have ek:((k:Int)).toNat=k:=by simp
    rw[ek];obtain⟨u,hu,z0,z1,z2,z3,z4⟩:=h1.at hk;obtain⟨ua,un,uc,va,vn,vc⟩:=u;simp only at z0 z1;have lG:=(h1.free 0).2;generalize hst:(s.at k).st=st at *;generalize hri:(s.at k).ri=ri at *;generalize hwa:(s.at k).wa=wa at *;cases st with
    | false =>
     rw[if_pos rfl];go_enter Tryz.func111,Tryz.ntmps111;go_wp2
     go_quiet (fail)
     rename_i nq;have hbq:Below (w.alloc (O18 la xl.length lc sa xs.length sc)).heap.size (w.alloc (O18 la xl.length lc sa xs.length sc)) (((w.alloc (O18 la xl.length lc sa xs.length sc)).drewN nq).alloc (O22 ua un uc va vn vc false ri wa)):=(Ba (Below.refl (w.alloc (O18 la xl.length lc sa xs.length sc)).heap.size (w.alloc (O18 la xl.length lc sa xs.length sc)))).alloc (Nat.le_refl (w.alloc (O18 la xl.length lc sa xs.length sc)).heap.size) _;have h2:=h1.below hbq;have P2:(((w.alloc (O18 la xl.length lc sa xs.length sc)).drewN nq).alloc (O22 ua un uc va vn vc false ri wa)).heap[w.heap.size+1]?=some (O22 ua un uc va vn vc false ri wa):=Ah w (O18 la xl.length lc sa xs.length sc) _;have A2:=stay hbq A1;have hv2:=hv1.below hbq;have hu2:=hu.below hbq;have hT2:=hT1.below hbq;have K2:=k1.trans (Lw.of_below hbq);go_wp2;clear h1 A1 hv1 hu hT1 k1 hbq a0 a1 x0 x1 x8 x28 x29 f29 lS z0 z1 z2 z3 z4 hv hT h hb1 lG;generalize ((w.alloc (O18 la xl.length lc sa xs.length sc)).drewN nq).alloc (O22 ua un uc va vn vc false ri wa)=w2 at *;obtain⟨a0,a1⟩:=cl2 A2;obtain⟨p0,p1,p2⟩:=cl3 P2;have x0:=Ab h2.blk 0;have x1:=Ab h2.blk 1;have lA:=lt_of_block A2;have lP:=lt_of_block P2;have lS:=lt_of_block h2.blk;simp at a0 a1 p0 p1 p2 x0 x1
     go_quiet (fail)
     have hbq:Below w2.heap.size w2 (w2.drewN nq):=Ba (Below.refl _ _);have h3:=h2.below hbq;have A3:=stay hbq A2;have hv3:=hv2.below hbq;have K3:=K2.trans (Lw.of_below hbq);go_wp2;clear h2 A2 P2 hv2 hu2 hT2 K2 hbq a0 a1 p0 p1 p2 x0 x1 lA lP lS;generalize w2.drewN nq=w3 at *;have x28:=Ab h3.blk 28;obtain⟨a0,a1⟩:=cl2 A3;have lA:=lt_of_block A3;have lS:=lt_of_block h3.blk;obtain⟨u9,-,z0,z1,z2,z3,-⟩:=h3.at hk;obtain⟨ua9,un9,uc9,va9,vn9,vc9⟩:=u9;have f0:=(h3.free (k*5)).1;have f1:=(h3.free (k*5+1)).1;have f2:=(h3.free (k*5+2)).1;have f3:=(h3.free (k*5+3)).1;have lG:=(h3.free 0).2;simp only at z0 z1;simp at a0 a1 x28
     go_region
     obtain⟨g4,k4⟩:=h3.fr (u:=⟨la,xl.length,lc,sa,xs.length,sc⟩) hk hv3;have hd:=fun w':World=>(Below.refl w'.heap.size w').drew;have g5:=g4.below (hd _);have K5:=(K3.trans k4).trans (Lw.of_below (hd _));obtain⟨y28,lS5,y2,y3,q2,q3,lG5⟩:=g5.put1 hk;rw[hst]at y2;rw[hri]at y3;clear h3 A3 hv3 K3 x28 a0 a1 lA lS z0 z1 z2 z3 f0 f1 f2 f3 lG g4 k4 hd;generalize ((w3.setCell ⟨G,k*5,none⟩ (.slice la xl.length lc)).setCell ⟨G,k*5+1,none⟩ (.slice sa xs.length sc)).drew=w5 at *;go_wp2
     go_end0
     obtain⟨g6,k6⟩:=LsAt.put2 hk g5;exact⟨rfl,g6,K5.trans k6⟩
    | true =>
     rw[if_neg (by simp)];have hF:=fun w' hT' hu' hv'=>Pw (ya:=b.ya) (yn:=b.yn) (yc:=b.yc) b.T b.tg b.tc ⟨la,xl.length,lc,sa,xs.length,sc⟩ ⟨ua,un,uc,va,vn,vc⟩ ⟨xl,xs⟩ (s.at k).fr w' hl hT' hu' hv';have hJ:=fun w' hT' hu' hv'=>Zu (ya:=b.ya) (yn:=b.yn) (yc:=b.yc) b.T b.tg b.tc ⟨la,xl.length,lc,sa,xs.length,sc⟩ ⟨ua,un,uc,va,vn,vc⟩ ⟨xl,xs⟩ (s.at k).fr w' hl hT' hu' hv';simp only[FrV.val]at hF hJ;generalize hfr:(s.at k).fr=fr at *;generalize Agv b.T ⟨xl,xs⟩ fr=FB at *;have HF:=Ac hF;have HJ:=Ac hJ;clear hF hJ;cases FB with
     | true =>
      rw[if_pos rfl];go_enter Tryz.func111,Tryz.ntmps111;go_wp2
      go_quiet (fail)
      rename_i nq;have hbq:Below (w.alloc (O18 la xl.length lc sa xs.length sc)).heap.size (w.alloc (O18 la xl.length lc sa xs.length sc)) (((w.alloc (O18 la xl.length lc sa xs.length sc)).drewN nq).alloc (O22 ua un uc va vn vc true ri wa)):=(Ba (Below.refl (w.alloc (O18 la xl.length lc sa xs.length sc)).heap.size (w.alloc (O18 la xl.length lc sa xs.length sc)))).alloc (Nat.le_refl (w.alloc (O18 la xl.length lc sa xs.length sc)).heap.size) _;have h2:=h1.below hbq;have P2:(((w.alloc (O18 la xl.length lc sa xs.length sc)).drewN nq).alloc (O22 ua un uc va vn vc true ri wa)).heap[w.heap.size+1]?=some (O22 ua un uc va vn vc true ri wa):=Ah w (O18 la xl.length lc sa xs.length sc) _;have A2:=stay hbq A1;have hv2:=hv1.below hbq;have hu2:=hu.below hbq;have hT2:=hT1.below hbq;have K2:=k1.trans (Lw.of_below hbq);go_wp2;clear h1 A1 hv1 hu hT1 k1 hbq a0 a1 x0 x1 x8 x28 x29 f29 lS z0 z1 z2 z3 z4 hv hT h hb1 lG;generalize ((w.alloc (O18 la xl.length lc sa xs.length sc)).drewN nq).alloc (O22 ua un uc va vn vc true ri wa)=w2 at *;obtain⟨a0,a1⟩:=cl2 A2;obtain⟨p0,p1,p2⟩:=cl3 P2;have x0:=Ab h2.blk 0;have x1:=Ab h2.blk 1;have lA:=lt_of_block A2;have lP:=lt_of_block P2;have lS:=lt_of_block h2.blk;simp at a0 a1 p0 p1 p2 x0 x1;have hf2:=Aa HF w2.drew (hT2.below (Below.refl _ _).drew) (hv2.below (Below.refl _ _).drew) (hu2.below (Below.refl _ _).drew);have HF2:=Ac hf2;clear hf2
      go_region_held3 (fun w'=>w'.cell? ⟨w.heap.size,0,none⟩=some (.slice la xl.length lc)∧w'.cell? ⟨w.heap.size,1,none⟩=some (.slice sa xs.length sc)∧w'.cell? ⟨w.heap.size+1,0,none⟩=some (.slice ua un uc)∧w'.cell? ⟨w.heap.size+1,1,none⟩=some (.slice va vn vc)∧w'.cell? ⟨w.heap.size+1,2,none⟩=some (.bool true)∧w'.cell? ⟨S,0,none⟩=some (.slice (some ⟨b.tg,0,none⟩) b.T.length b.tc)∧w'.cell? ⟨S,1,none⟩=some (.slice b.ya b.yn b.yc))
       (first | exact⟨a0,a1,p0,p1,p2,x0,x1⟩ | exact⟨QC hb7 lA a0,QC hb7 lA a1,QC hb7 lP p0,QC hb7 lP p1,QC hb7 lP p2,QC hb7 lS x0,QC hb7 lS x1⟩)
       (first | (go_at_call 167;refine(Aa HF2).mono ?_;rintro e w7 ⟨rfl,hb7⟩))
      have hb8:Below w2.heap.size w2 w7:=(Below.refl _ _).drew.trans hb7;have g8:=h2.below hb8;have K8:=K2.trans (Lw.of_below hb8);go_wp2;refine bodyPost_ret (v:=.tuple #[]) (by simp[results,Tryz.results111,go_sem]) rfl ?_;exact⟨rfl,g8,K8⟩
     | false =>
      rw[if_neg (by simp)];by_cases hcan:xl.length=fr.locals.length∧xs.length=fr.stack.length
      ·rw[if_pos hcan];have HCAN:=Ac hcan;clear hcan;go_enter Tryz.func111,Tryz.ntmps111;go_wp2
       go_quiet (fail)
       rename_i nq;have hbq:Below (w.alloc (O18 la xl.length lc sa xs.length sc)).heap.size (w.alloc (O18 la xl.length lc sa xs.length sc)) (((w.alloc (O18 la xl.length lc sa xs.length sc)).drewN nq).alloc (O22 ua un uc va vn vc true ri wa)):=(Ba (Below.refl (w.alloc (O18 la xl.length lc sa xs.length sc)).heap.size (w.alloc (O18 la xl.length lc sa xs.length sc)))).alloc (Nat.le_refl (w.alloc (O18 la xl.length lc sa xs.length sc)).heap.size) _;have h2:=h1.below hbq;have P2:(((w.alloc (O18 la xl.length lc sa xs.length sc)).drewN nq).alloc (O22 ua un uc va vn vc true ri wa)).heap[w.heap.size+1]?=some (O22 ua un uc va vn vc true ri wa):=Ah w (O18 la xl.length lc sa xs.length sc) _;have A2:=stay hbq A1;have hv2:=hv1.below hbq;have hu2:=hu.below hbq;have hT2:=hT1.below hbq;have K2:=k1.trans (Lw.of_below hbq);go_wp2;clear h1 A1 hv1 hu hT1 k1 hbq a0 a1 x0 x1 x8 x28 x29 f29 lS z0 z1 z2 z3 z4 hv hT h hb1 lG;generalize ((w.alloc (O18 la xl.length lc sa xs.length sc)).drewN nq).alloc (O22 ua un uc va vn vc true ri wa)=w2 at *;obtain⟨a0,a1⟩:=cl2 A2;obtain⟨p0,p1,p2⟩:=cl3 P2;have x0:=Ab h2.blk 0;have x1:=Ab h2.blk 1;have lA:=lt_of_block A2;have lP:=lt_of_block P2;have lS:=lt_of_block h2.blk;simp at a0 a1 p0 p1 p2 x0 x1;have hf2:=Aa HF w2.drew (hT2.below (Below.refl _ _).drew) (hv2.below (Below.refl _ _).drew) (hu2.below (Below.refl _ _).drew);have HF2:=Ac hf2;clear hf2
       go_region_held3 (fun w'=>w'.cell? ⟨w.heap.size,0,none⟩=some (.slice la xl.length lc)∧w'.cell? ⟨w.heap.size,1,none⟩=some (.slice sa xs.length sc)∧w'.cell? ⟨w.heap.size+1,0,none⟩=some (.slice ua un uc)∧w'.cell? ⟨w.heap.size+1,1,none⟩=some (.slice va vn vc)∧w'.cell? ⟨w.heap.size+1,2,none⟩=some (.bool true)∧w'.cell? ⟨S,0,none⟩=some (.slice (some ⟨b.tg,0,none⟩) b.T.length b.tc)∧w'.cell? ⟨S,1,none⟩=some (.slice b.ya b.yn b.yc))
        (first | exact⟨a0,a1,p0,p1,p2,x0,x1⟩ | exact⟨QC hb7 lA a0,QC hb7 lA a1,QC hb7 lP p0,QC hb7 lP p1,QC hb7 lP p2,QC hb7 lS x0,QC hb7 lS x1⟩)
        (first | (go_at_call 167;refine(Aa HF2).mono ?_;rintro e w7 ⟨rfl,hb7⟩))
       have hb8:Below w2.heap.size w2 w7:=(Below.refl _ _).drew.trans hb7;have h7:=h2.below hb8;have A7:=stay hb8 A2;have P7:=stay hb8 P2;have K7:=K2.trans (Lw.of_below hb8);have hv7:=hv2.below hb8;have hu7:=hu2.below hb8;have hT7:=hT2.below hb8;clear h2 A2 P2 K2 hv2 hu2 hT2 hb7 hb8 a0 a1 p0 p1 p2 x0 x1 lA lP lS HF2;obtain⟨a0,a1⟩:=cl2 A7;obtain⟨p0,p1,p2⟩:=cl3 P7;have x0:=Ab h7.blk 0;have x1:=Ab h7.blk 1;have lA:=lt_of_block A7;have lP:=lt_of_block P7;have lS:=lt_of_block h7.blk;simp at a0 a1 p0 p1 p2 x0 x1
       go_upto_region 6 with fail
       go_cut [7,8] from 9 (fun s7 s8 wx=>∃ (jb:Nat) (z:FrV),s7=.pointer (some ⟨jb,0,none⟩)∧s8=.bool true∧wx.heap[jb]?=some (O18 z.la z.ln z.lc z.sa z.sn z.sc)∧FrV.is z (Ahu b.T ⟨xl,xs⟩ fr) wx∧Below w7.heap.size w7 wx)
       case first =>
        have hF6:w7.drew.cell? ⟨w.heap.size,0,none⟩=some (.slice la xl.length lc)∧w7.drew.cell? ⟨w.heap.size,1,none⟩=some (.slice sa xs.length sc)∧w7.drew.cell? ⟨w.heap.size+1,0,none⟩=some (.slice ua un uc)∧w7.drew.cell? ⟨w.heap.size+1,1,none⟩=some (.slice va vn vc)∧w7.drew.cell? ⟨S,0,none⟩=some (.slice (some ⟨b.tg,0,none⟩) b.T.length b.tc)∧w7.drew.cell? ⟨S,0+1,none⟩=some (.slice b.ya b.yn b.yc):=⟨a0,a1,p0,p1,x0,x1⟩;have hBZ:Below w7.drew.heap.size w7.drew (w7.alloc (O18 none 0 0 none 0 0)).drew:=⟨rfl,rfl,rfl,(show w7.heap.size≤(w7.alloc (O18 none 0 0 none 0 0)).heap.size by simp),fun k hk=>(((Below.refl _ w7).alloc (Nat.le_refl _) (O18 none 0 0 none 0 0)).block k hk)⟩;have lZ:w7.drew.heap.size≤(w7.alloc (O18 none 0 0 none 0 0)).drew.heap.size:=hBZ.size;have Z0:(w7.alloc (O18 none 0 0 none 0 0)).drew.heap[w7.heap.size]?=some (O18 none 0 0 none 0 0):=Ad w7 _;have hd7:Below w7.heap.size w7 w7.drew:=(Below.refl _ _).drew;have hz7:Below w7.heap.size w7 (w7.alloc (O18 none 0 0 none 0 0)).drew:=hd7.trans hBZ;replace lA:w.heap.size<w7.drew.heap.size:=lA;replace lP:w.heap.size+1<w7.drew.heap.size:=lP;replace lS:S<w7.drew.heap.size:=lS;have hj1:=Aa HJ w7.drew (hT7.below hd7) (hv7.below hd7) (hu7.below hd7);have hj2:=Aa HJ (w7.alloc (O18 none 0 0 none 0 0)).drew (hT7.below hz7) (hv7.below hz7) (hu7.below hz7);rw[decide_eq_true (Aa HCAN)]at hj1 hj2;have HJ1:=Ac hj1;have HJ2:=Ac hj2;clear hj1 hj2;go_wp2
        go_region_held3 (fun w'=>w'.cell? ⟨w.heap.size,0,none⟩=some (.slice la xl.length lc)∧w'.cell? ⟨w.heap.size,1,none⟩=some (.slice sa xs.length sc)∧w'.cell? ⟨w.heap.size+1,0,none⟩=some (.slice ua un uc)∧w'.cell? ⟨w.heap.size+1,1,none⟩=some (.slice va vn vc)∧w'.cell? ⟨S,0,none⟩=some (.slice (some ⟨b.tg,0,none⟩) b.T.length b.tc)∧w'.cell? ⟨S,0+1,none⟩=some (.slice b.ya b.yn b.yc))
         (first | (with_reducible exact hF6) | (with_reducible exact Bh lA lP lS hF6 hb9) | (with_reducible exact Bh lA lP lS hF6 (hb9.alloc hb9.size _)) | (with_reducible exact Bh lA lP lS hF6 hBZ) | (with_reducible exact Bh lA lP lS hF6 (hBZ.trans (hb9.mono lZ))) | (with_reducible exact Bh lA lP lS hF6 ((hBZ.trans (hb9.mono lZ)).setCell (Nat.le_refl _) _)) | (with_reducible exact Bh lA lP lS hF6 (((hBZ.trans (hb9.mono lZ)).setCell (Nat.le_refl _) _).setCell (Nat.le_refl _) _)))
         (first | (go_at_call 168;refine(Aa HJ1).mono ?_;rintro e w9 ⟨z,rfl,hz,hb9⟩;obtain⟨ja,jn,jc,ka,kn,kc⟩:=z;simp only[FrV.val]) | (go_at_call 168;refine(Aa HJ2).mono ?_;rintro e w9 ⟨z,rfl,hz,hb9⟩;obtain⟨ja,jn,jc,ka,kn,kc⟩:=z;simp only[FrV.val];have Z9:=stay hb9 Z0;have z0':=Ab Z9 0;have z1':=Ab Z9 1;have q0':=Ag Z9 0;have q1':=Ag Z9 1;simp at z0' z1'))
        all_goals
         go_wp2
         go_meet
        ·exact⟨_,⟨ja,jn,jc,ka,kn,kc⟩,rfl,rfl,Ad w9 _,(hz (Aa HCAN)).below (QN _),(hd7.trans (hb9.mono (Nat.le_refl _))).alloc (Nat.le_trans (Nat.le_refl _) hb9.size) _⟩
        ·exact⟨_,⟨ja,jn,jc,ka,kn,kc⟩,rfl,rfl,Ei Z9 _ _,(hz (Aa HCAN)).set2 Z9 _ _,((QB hz7 hb9).setCell (Nat.le_refl _) _).setCell (Nat.le_refl _) _⟩
       case rest =>
        obtain⟨jb,z,rfl,rfl,ZB,hz9,hb9⟩:=hcut;obtain⟨ja,jn,jc,ka,kn,kc⟩:=z;simp only at ZB;have h9:=h7.below hb9;have A9:=stay hb9 A7;have K9:=K7.trans (Lw.of_below hb9);clear h7 A7 P7 K7 hv7 hu7 hT7 hb9 a0 a1 p0 p1 p2 x0 x1 lA lP lS;obtain⟨y0,y1⟩:=cl2 ZB;obtain⟨a0,a1⟩:=cl2 A9;obtain⟨q0,q1⟩:=fr2 A9;have lJ:=lt_of_block ZB;have lA:=lt_of_block A9;simp at a0 a1 y0 y1;have h3:=h9.box A9 (by omega) (by omega) (.slice ja jn jc) (.slice ka kn kc);have A3:=Ei A9 (.slice ja jn jc) (.slice ka kn kc);have hv3:=hz9.set2 A9 (.slice ja jn jc) (.slice ka kn kc);have K3:=K9.box (g:=w.heap.size) (Nat.le_refl _) (.slice ja jn jc) (.slice ka kn kc)
        go_upto_region 10 with fail
        clear h9 A9 hz9 K9 ZB y0 y1 a0 a1 q0 q1 lJ lA;generalize ((wc.setCell ⟨w.heap.size,0,none⟩ (.slice ja jn jc)).setCell ⟨w.heap.size,1,none⟩ (.slice ka kn kc))=w3 at *;have x28:=Ab h3.blk 28;obtain⟨a0,a1⟩:=cl2 A3;have lA:=lt_of_block A3;have lS:=lt_of_block h3.blk;obtain⟨u9,-,z0,z1,z2,z3,-⟩:=h3.at hk;obtain⟨ua9,un9,uc9,va9,vn9,vc9⟩:=u9;have f0:=(h3.free (k*5)).1;have f1:=(h3.free (k*5+1)).1;have f2:=(h3.free (k*5+2)).1;have f3:=(h3.free (k*5+3)).1;have lG:=(h3.free 0).2;simp only at z0 z1;simp at a0 a1 x28
        go_region
        obtain⟨g4,k4⟩:=h3.fr (u:=⟨ja,jn,jc,ka,kn,kc⟩) hk hv3;have hd:=fun w':World=>(Below.refl w'.heap.size w').drew;have g5:=g4.below (hd _);have K5:=(K3.trans k4).trans (Lw.of_below (hd _));obtain⟨y28,lS5,y2,y3,q2,q3,lG5⟩:=g5.put1 hk;rw[hst]at y2;rw[hri]at y3;clear h3 A3 hv3 K3 x28 a0 a1 lA lS z0 z1 z2 z3 f0 f1 f2 f3 lG g4 k4 hd;generalize ((w3.setCell ⟨G,k*5,none⟩ (.slice ja jn jc)).setCell ⟨G,k*5+1,none⟩ (.slice ka kn kc)).drew=w5 at *;go_wp2
        go_end0
        obtain⟨g6,k6⟩:=LsAt.put2 hk g5;exact⟨rfl,g6,K5.trans k6⟩
      ·rw[if_neg hcan];have HCAN:=Ac hcan;clear hcan;go_enter Tryz.func111,Tryz.ntmps111;go_wp2
       go_quiet (fail)
       rename_i nq;have hbq:Below (w.alloc (O18 la xl.length lc sa xs.length sc)).heap.size (w.alloc (O18 la xl.length lc sa xs.length sc)) (((w.alloc (O18 la xl.length lc sa xs.length sc)).drewN nq).alloc (O22 ua un uc va vn vc true ri wa)):=(Ba (Below.refl (w.alloc (O18 la xl.length lc sa xs.length sc)).heap.size (w.alloc (O18 la xl.length lc sa xs.length sc)))).alloc (Nat.le_refl (w.alloc (O18 la xl.length lc sa xs.length sc)).heap.size) _;have h2:=h1.below hbq;have P2:(((w.alloc (O18 la xl.length lc sa xs.length sc)).drewN nq).alloc (O22 ua un uc va vn vc true ri wa)).heap[w.heap.size+1]?=some (O22 ua un uc va vn vc true ri wa):=Ah w (O18 la xl.length lc sa xs.length sc) _;have A2:=stay hbq A1;have hv2:=hv1.below hbq;have hu2:=hu.below hbq;have hT2:=hT1.below hbq;have K2:=k1.trans (Lw.of_below hbq);go_wp2;clear h1 A1 hv1 hu hT1 k1 hbq a0 a1 x0 x1 x8 x28 x29 f29 lS z0 z1 z2 z3 z4 hv hT h hb1 lG;generalize ((w.alloc (O18 la xl.length lc sa xs.length sc)).drewN nq).alloc (O22 ua un uc va vn vc true ri wa)=w2 at *;obtain⟨a0,a1⟩:=cl2 A2;obtain⟨p0,p1,p2⟩:=cl3 P2;have x0:=Ab h2.blk 0;have x1:=Ab h2.blk 1;have lA:=lt_of_block A2;have lP:=lt_of_block P2;have lS:=lt_of_block h2.blk;simp at a0 a1 p0 p1 p2 x0 x1;have hf2:=Aa HF w2.drew (hT2.below (Below.refl _ _).drew) (hv2.below (Below.refl _ _).drew) (hu2.below (Below.refl _ _).drew);have HF2:=Ac hf2;clear hf2
       go_region_held3 (fun w'=>w'.cell? ⟨w.heap.size,0,none⟩=some (.slice la xl.length lc)∧w'.cell? ⟨w.heap.size,1,none⟩=some (.slice sa xs.length sc)∧w'.cell? ⟨w.heap.size+1,0,none⟩=some (.slice ua un uc)∧w'.cell? ⟨w.heap.size+1,1,none⟩=some (.slice va vn vc)∧w'.cell? ⟨w.heap.size+1,2,none⟩=some (.bool true)∧w'.cell? ⟨S,0,none⟩=some (.slice (some ⟨b.tg,0,none⟩) b.T.length b.tc)∧w'.cell? ⟨S,1,none⟩=some (.slice b.ya b.yn b.yc))
        (first | exact⟨a0,a1,p0,p1,p2,x0,x1⟩ | exact⟨QC hb7 lA a0,QC hb7 lA a1,QC hb7 lP p0,QC hb7 lP p1,QC hb7 lP p2,QC hb7 lS x0,QC hb7 lS x1⟩)
        (first | (go_at_call 167;refine(Aa HF2).mono ?_;rintro e w7 ⟨rfl,hb7⟩))
       have hb8:Below w2.heap.size w2 w7:=(Below.refl _ _).drew.trans hb7;have h7:=h2.below hb8;have A7:=stay hb8 A2;have P7:=stay hb8 P2;have K7:=K2.trans (Lw.of_below hb8);have hv7:=hv2.below hb8;have hu7:=hu2.below hb8;have hT7:=hT2.below hb8;clear h2 A2 P2 K2 hv2 hu2 hT2 hb7 hb8 a0 a1 p0 p1 p2 x0 x1 lA lP lS HF2;obtain⟨a0,a1⟩:=cl2 A7;obtain⟨p0,p1,p2⟩:=cl3 P7;have x0:=Ab h7.blk 0;have x1:=Ab h7.blk 1;have lA:=lt_of_block A7;have lP:=lt_of_block P7;have lS:=lt_of_block h7.blk;simp at a0 a1 p0 p1 p2 x0 x1
       go_upto_region 6 with fail
       go_cut [7,8] from 9 (fun s7 s8 wx=>∃ (jb:Nat) (z:FrV),s7=.pointer (some ⟨jb,0,none⟩)∧s8=.bool false∧wx.heap[jb]?=some (O18 z.la z.ln z.lc z.sa z.sn z.sc)∧True∧Below w7.heap.size w7 wx)
       case first =>
        have hF6:w7.drew.cell? ⟨w.heap.size,0,none⟩=some (.slice la xl.length lc)∧w7.drew.cell? ⟨w.heap.size,1,none⟩=some (.slice sa xs.length sc)∧w7.drew.cell? ⟨w.heap.size+1,0,none⟩=some (.slice ua un uc)∧w7.drew.cell? ⟨w.heap.size+1,1,none⟩=some (.slice va vn vc)∧w7.drew.cell? ⟨S,0,none⟩=some (.slice (some ⟨b.tg,0,none⟩) b.T.length b.tc)∧w7.drew.cell? ⟨S,0+1,none⟩=some (.slice b.ya b.yn b.yc):=⟨a0,a1,p0,p1,x0,x1⟩;have hBZ:Below w7.drew.heap.size w7.drew (w7.alloc (O18 none 0 0 none 0 0)).drew:=⟨rfl,rfl,rfl,(show w7.heap.size≤(w7.alloc (O18 none 0 0 none 0 0)).heap.size by simp),fun k hk=>(((Below.refl _ w7).alloc (Nat.le_refl _) (O18 none 0 0 none 0 0)).block k hk)⟩;have lZ:w7.drew.heap.size≤(w7.alloc (O18 none 0 0 none 0 0)).drew.heap.size:=hBZ.size;have Z0:(w7.alloc (O18 none 0 0 none 0 0)).drew.heap[w7.heap.size]?=some (O18 none 0 0 none 0 0):=Ad w7 _;have hd7:Below w7.heap.size w7 w7.drew:=(Below.refl _ _).drew;have hz7:Below w7.heap.size w7 (w7.alloc (O18 none 0 0 none 0 0)).drew:=hd7.trans hBZ;replace lA:w.heap.size<w7.drew.heap.size:=lA;replace lP:w.heap.size+1<w7.drew.heap.size:=lP;replace lS:S<w7.drew.heap.size:=lS;have hj1:=Aa HJ w7.drew (hT7.below hd7) (hv7.below hd7) (hu7.below hd7);have hj2:=Aa HJ (w7.alloc (O18 none 0 0 none 0 0)).drew (hT7.below hz7) (hv7.below hz7) (hu7.below hz7);rw[decide_eq_false (Aa HCAN)]at hj1 hj2;have HJ1:=Ac hj1;have HJ2:=Ac hj2;clear hj1 hj2;go_wp2
        go_region_held3 (fun w'=>w'.cell? ⟨w.heap.size,0,none⟩=some (.slice la xl.length lc)∧w'.cell? ⟨w.heap.size,1,none⟩=some (.slice sa xs.length sc)∧w'.cell? ⟨w.heap.size+1,0,none⟩=some (.slice ua un uc)∧w'.cell? ⟨w.heap.size+1,1,none⟩=some (.slice va vn vc)∧w'.cell? ⟨S,0,none⟩=some (.slice (some ⟨b.tg,0,none⟩) b.T.length b.tc)∧w'.cell? ⟨S,0+1,none⟩=some (.slice b.ya b.yn b.yc))
         (first | (with_reducible exact hF6) | (with_reducible exact Bh lA lP lS hF6 hb9) | (with_reducible exact Bh lA lP lS hF6 (hb9.alloc hb9.size _)) | (with_reducible exact Bh lA lP lS hF6 hBZ) | (with_reducible exact Bh lA lP lS hF6 (hBZ.trans (hb9.mono lZ))) | (with_reducible exact Bh lA lP lS hF6 ((hBZ.trans (hb9.mono lZ)).setCell (Nat.le_refl _) _)) | (with_reducible exact Bh lA lP lS hF6 (((hBZ.trans (hb9.mono lZ)).setCell (Nat.le_refl _) _).setCell (Nat.le_refl _) _)))
         (first | (go_at_call 168;refine(Aa HJ1).mono ?_;rintro e w9 ⟨z,rfl,hz,hb9⟩;obtain⟨ja,jn,jc,ka,kn,kc⟩:=z;simp only[FrV.val]) | (go_at_call 168;refine(Aa HJ2).mono ?_;rintro e w9 ⟨z,rfl,hz,hb9⟩;obtain⟨ja,jn,jc,ka,kn,kc⟩:=z;simp only[FrV.val];have Z9:=stay hb9 Z0;have z0':=Ab Z9 0;have z1':=Ab Z9 1;have q0':=Ag Z9 0;have q1':=Ag Z9 1;simp at z0' z1'))
        all_goals
         go_wp2
         go_meet
        ·exact⟨_,⟨ja,jn,jc,ka,kn,kc⟩,rfl,rfl,Ad w9 _,trivial,(hd7.trans (hb9.mono (Nat.le_refl _))).alloc (Nat.le_trans (Nat.le_refl _) hb9.size) _⟩
        ·exact⟨_,⟨ja,jn,jc,ka,kn,kc⟩,rfl,rfl,Ei Z9 _ _,trivial,((QB hz7 hb9).setCell (Nat.le_refl _) _).setCell (Nat.le_refl _) _⟩
       case rest =>
        obtain⟨jb,z,rfl,rfl,ZB,hz9,hb9⟩:=hcut;obtain⟨ja,jn,jc,ka,kn,kc⟩:=z;simp only at ZB;have h9:=h7.below hb9;have A9:=stay hb9 A7;have K9:=K7.trans (Lw.of_below hb9);clear h7 A7 P7 K7 hv7 hu7 hT7 hb9 a0 a1 p0 p1 p2 x0 x1 lA lP lS;obtain⟨y0,y1⟩:=cl2 ZB;obtain⟨a0,a1⟩:=cl2 A9;obtain⟨q0,q1⟩:=fr2 A9;have lJ:=lt_of_block ZB;have lA:=lt_of_block A9;simp at a0 a1 y0 y1;have h3:=h9;have K3:=K9;clear h9 K9;have x29:=Ab h3.blk 29;have f29:=Ag h3.blk 29;have lS:=lt_of_block h3.blk;simp at x29;obtain⟨g4,k4⟩:=h3.stop;go_wp2;refine bodyPost_ret (v:=.tuple #[]) (by simp[results,Tryz.results111,go_sem]) rfl ?_;exact⟨rfl,g4,K3.trans k4⟩
theorem Pj (b:PBd) (S G gc:Nat) (s:Afd) (v:FrV) (x:Afb) (q:Int) (w:World) (hl:b.T.length≤1000) (hT:TreeIn w b.tg b.T) (h:LsAt w S G b gc s) (hv:v.is x w) :
  Calls Tryz.prog 223 #[.pointer (some ⟨S,0,none⟩),v.val,.int .i64 q] w fun e w'=>e=.returned (.tuple #[])∧LsAt w' S G b gc (Agz b.T b.st x q s)∧Lw S G w w':=by
 have hA:=fun w' (hb:Below w.heap.size w w')=>Io b S G gc s v x q w' hl (hT.below hb) (h.below hb) (hv.below hb);unfold Agz Ajm;generalize Afo b.T b.st x q s=s1 at *;obtain⟨la,ln,lc,sa,sn,sc⟩:=v;simp only[FrV.val]at hA ⊢;have HA:=Ac hA;have hb1:Below w.heap.size w (w.alloc (O18 la ln lc sa sn sc)):=QN _;have k1:Lw S G w (w.alloc (O18 la ln lc sa sn sc)):=Lw.of_below hb1;clear hA hT h hv;by_cases c0:0≤q
 ·obtain⟨k,rfl⟩:∃ k:Nat,q=(k:Int):=⟨q.toNat,by omega⟩;by_cases c1:(k:Int)<(s1.sp.length:Int)
  ·rw[if_pos ⟨c0,c1⟩];go_enter Tryz.func223,Tryz.ntmps223;go_wp2_with fail
   refine(Aa HA _ hb1).mono ?_;rintro e w1 ⟨rfl,h1,k2⟩;have x28:=Ab h1.blk 28;have lS:=lt_of_block h1.blk;obtain⟨u,hu,z0,z1,z2,z3,z4⟩:=h1.at (i:=k) (by omega);obtain⟨f4,lG⟩:=h1.free (k*5+4);obtain⟨g2,k3⟩:=h1.wa (q:=k) (by omega) true;have K:=(k1.trans k2).trans k3;have hcp:=h1.cap;have hln:=h1.len;simp at x28;clear k1 k2 k3 h1 hu hb1;go_wp2
   go_end0
   exact⟨rfl,by simpa[Afd.want] using g2,K⟩
  ·rw[if_neg (fun h=>c1 h.2)];go_enter Tryz.func223,Tryz.ntmps223;go_wp2_with fail
   refine(Aa HA _ hb1).mono ?_;rintro e w1 ⟨rfl,h1,k2⟩;have x28:=Ab h1.blk 28;have lS:=lt_of_block h1.blk;simp at x28;go_wp2
   go_end0
   exact⟨rfl,h1,k1.trans k2⟩
 ·rw[if_neg (fun h=>c0 h.1)];go_enter Tryz.func223,Tryz.ntmps223;go_wp2_with fail
  refine(Aa HA _ hb1).mono ?_;rintro e w1 ⟨rfl,h1,k2⟩;go_wp2
  go_end0
  exact⟨rfl,h1,k1.trans k2⟩
theorem Lw.stay {S G:Nat}{w w':World}{k:Nat}{o:Obj} (hb:Lw S G w w') (h:w.heap[k]?=some o) (h1:k≠S) (h2:k≠G):w'.heap[k]?=some o:=(hb.block k (lt_of_block h) h1 h2).trans h
theorem Yi (b:PBd) (S G gc:Nat) (hs:List Rd.Hnd) (bb:Nat) (p:Int) (s:Afd) (v:FrV) (x:Afb) (w:World) (hl:b.T.length≤1000) (hT:∀ w',Lw S G w w'→TreeIn w' b.tg b.T) (hhl:b.hl=hs.length) (hh4:hs.length≤1000) (hhs:∀ w',Lw S G w w'→HndsAt w' bb (.slice b.ha b.hl b.hc) hs) (h:LsAt w S G b gc s) (hv:v.is x w) :
  Calls Tryz.prog 220 #[.pointer (some ⟨S,0,none⟩),.int .i64 p,v.val] w fun e w'=>e=.returned (.tuple #[])∧LsAt w' S G b gc (Afn b.T b.st p x.locals hs s)∧Lw S G w w':=by
 have hJ:=fun u y q s' w' (k:Lw S G w w') h' hu=>Pj b S G gc s' u y q w' hl (hT w' k) h' hu;have hC:=fun c w' (k:Lw S G w w')=>Mv c v x w' (hv.lw k);have HHS:=Ac hhs;generalize hr:Afn b.T b.st p x.locals hs s=R;have HR:Hid (Afn b.T b.st p x.locals (hs.drop 0) s=R):=hr;have hx10:=Ab h.blk 10;have lS:=lt_of_block h.blk;simp at hx10;have hSlt:S<w.heap.size:=lS;have hGlt:G<w.heap.size:=(h.free 0).2;obtain⟨la,ln,lc,sa,sn,sc⟩:=v;simp only[FrV.val]at hC ⊢;rw[hhl]at hx10;have HJ:=Ac hJ;have HC:=Ac hC;have hb0:Below w.heap.size w (w.alloc (O18 la ln lc sa sn sc)):=QN _;have K0:Lw S G w (w.alloc (O18 la ln lc sa sn sc)):=Lw.of_below hb0;have L0:=h.below hb0;have A0:=Ad w (O18 la ln lc sa sn sc);have X10:=(World.cell?_alloc_lt w (O18 la ln lc sa sn sc) ⟨S,10,none⟩ hSlt).trans hx10;clear hr hT hhs hv hJ hC hx10 h hl;unfold Hid at HHS;rw[hhl]at HHS;generalize b.ha=ha at X10 HHS;generalize b.hc=hc at X10 HHS;have HHS':=Ac HHS;clear HHS hhl;go_enter Tryz.func220,Tryz.ntmps220;go_wp2
 go_loopw [15] (fun i wr=>∃ (q:Nat) (t:Afd),q≤hs.length∧i=.int .i64 (q:Int)∧Hid (Afn b.T b.st p x.locals (hs.drop q) t=R)∧LsAt wr S G b gc t∧Lw S G w wr∧wr.heap[w.heap.size]?=some (O18 la ln lc sa sn sc))
  (fun i _=>hs.length-(intOf i).toNat)
 case atStart=>exact⟨0,s,by omega,rfl,HR,L0,K0,A0⟩
 case round =>
  clear HR L0 K0 A0 hb0 X10;obtain⟨q,t,hq,rfl,HR,L1,K1,CA⟩:=hrel;have hKs:=K1.size;by_cases hkn:q<hs.length
  ·obtain⟨g,hg,hglt,_,hcell⟩:=Ao (Aa HHS' _ K1) (by omega);have y0:=(hcell _ (As hs q hkn 0 (by omega)).2).trans (As hs q hkn 0 (by omega)).1;have y1:=(hcell _ (As hs q hkn 1 (by omega)).2).trans (As hs q hkn 1 (by omega)).1;have y2:=(hcell _ (As hs q hkn 2 (by omega)).2).trans (As hs q hkn 2 (by omega)).1;have y3:=(hcell _ (As hs q hkn 3 (by omega)).2).trans (As hs q hkn 3 (by omega)).1;have hd:hs.drop q=hs[q]::hs.drop (q+1):=List.drop_eq_getElem_cons hkn;have hr:=Aa HR;rw[hd,Afn]at hr;generalize hs[q]=hh at *;obtain⟨h1,h2,h3,h4⟩:=hh;simp at y0 y1 y2 y3;simp only at hr;have kb:(q:Int)<(hs.length:Int):=by omega
   have hbH:Below wr.heap.size wr (wr.alloc (O13 h1 h2 h3 h4)):=QN _;have L2:=L1.below hbH;have K2:=K1.trans (Lw.of_below hbH);have CA2:=stay hbH CA;have CH2:=Ad wr (O13 h1 h2 h3 h4);have hco:=Ir ⟨h1,h2,h3,h4⟩ p (wr.alloc (O13 h1 h2 h3 h4));simp only at hco;generalize Af2 ⟨h1,h2,h3,h4⟩ p=CV at *;have HCO:=Ac hco;clear hco hd hcell HR hbH;subst hg;cases CV with
   | false =>
    rw[if_neg (by simp)]at hr;have HG:Hid (Afn b.T b.st p x.locals (hs.drop (q+1)) t=R):=hr;clear hr;go_wp2_with fail
    refine(Aa HCO).mono ?_;rintro e w1 ⟨rfl,hb1⟩;have L3:=L2.below hb1;have K3:=K2.trans (Lw.of_below hb1);have CA3:=stay hb1 CA2;clear hb1 L2 K2 CA2 L1 K1 CA CH2;go_wp2
    go_roundw
    case rel=>exact⟨q+1,t,by omega,by go_num,HG,L3,K3,CA3⟩
    case measure=>simp[intOf];omega
   | true =>
    rw[if_pos rfl]at hr;have HG:Hid (Afn b.T b.st p x.locals (hs.drop (q+1)) (Agz b.T b.st ⟨x.locals,[(3,h4)]⟩ h3 t)=R):=hr;clear hr;go_wp2_with fail
    refine(Aa HCO).mono ?_;rintro e w1 ⟨rfl,hb1⟩;have L3:=L2.below hb1;have K3:=K2.trans (Lw.of_below hb1);have CA3:=stay hb1 CA2;have CH3:=stay hb1 CH2;clear hb1 L2 K2 CA2 L1 K1 CA CH2;obtain⟨x0,x1⟩:=cl2 CA3;have z3:=Ab CH3 3;simp at x0 x1 z3;go_wp2_with fail
    refine(Aa HC h4 _ K3).mono ?_;rintro e w2 ⟨u,rfl,hu,hb2⟩;obtain⟨ua,un,uc,va,vn,vc⟩:=u;have hbC:Below w1.heap.size w1 (w2.alloc (O18 ua un uc va vn vc)):=hb2.alloc hb2.size _;have hu4:=hu.below (show Below w2.heap.size w2 (w2.alloc (O18 ua un uc va vn vc)) from QN _);have L4:=L3.below hbC;have K4:=K3.trans (Lw.of_below hbC);have CA4:=stay hbC CA3;have CH4:=stay hbC CH3;have hj:=Aa HJ ⟨ua,un,uc,va,vn,vc⟩ _ h3 t _ K4 L4 hu4;simp only[FrV.val]at hj;have HJ4:=Ac hj;have z2:=Ab CH4 2;have lH:=lt_of_block CH4;simp at z2;clear hb2 L3 K3 CA3 CH3 x0 x1 z3 hbC hu hu4 hj;go_wp2_with fail
    refine(Aa HJ4).mono ?_;rintro e w3 ⟨rfl,L5,K5⟩;have CA5:=K5.stay CA4 (by omega) (by omega);have K6:=K4.trans K5;clear L4 K4 K5 CA4 CH4;go_wp2
    go_roundw
    case rel=>exact⟨q+1,_,by omega,by go_num,HG,L5,K6,CA5⟩
    case measure=>simp[intOf];omega
  ·have kb:¬ (q:Int)<(hs.length:Int):=by omega
   have e:t=R:=by rw[← Aa HR,List.drop_eq_nil_of_le (by omega)];rfl
   subst e;clear HR;go_wp2
   go_end0
   exact⟨rfl,L1,K1⟩
def Ajo (T:List Int) (hi:Int) (op n nxt:Int) (RB:Option Afb) (s:Afd):Afd :=
 match RB with
 | none=>s.stop
 | some y=>if Af5 op=true then Afo T hi y nxt (if Afx op=true then Agz T hi y n s else s) else (if Afx op=true then Agz T hi y n s else s)
theorem Vd (T:List Int) (hi:Int) (hs:List Rd.Hnd) (bh:Cd.Ins→Afb→Option Afb) (i:Cd.Ins) (x:Afb) (s:Afd):Ah3 T hi hs bh i x s=Ajo T hi i.op i.n (i.place+(Cd.wd i.op:Int)) (bh i x) (Afn T hi i.place x.locals hs s):=by
 unfold Ah3 Ajo;cases bh i x<;>rfl
theorem Nz {w w':World}{k1 k2 k3:Nat}{u0 u1 u2 u3 u4 u5 u6 u7 u8 u9 u10 u11 u12 u13 u14 u15 u16 u17 u18 u19:Value} (l1:k1<w.heap.size) (l2:k2<w.heap.size) (l3:k3<w.heap.size) (h:w.cell? ⟨k1,13,none⟩=some u0∧w.cell? ⟨k1,14,none⟩=some u1∧w.cell? ⟨k1,15,none⟩=some u2∧w.cell? ⟨k1,16,none⟩=some u3∧w.cell? ⟨k1,17,none⟩=some u4∧w.cell? ⟨k1,18,none⟩=some u5∧w.cell? ⟨k1,19,none⟩=some u6∧w.cell? ⟨k1,20,none⟩=some u7∧w.cell? ⟨k1,21,none⟩=some u8∧w.cell? ⟨k1,22,none⟩=some u9∧w.cell? ⟨k1,23,none⟩=some u10∧w.cell? ⟨k1,24,none⟩=some u11∧w.cell? ⟨k1,25,none⟩=some u12∧w.cell? ⟨k1,26,none⟩=some u13∧w.cell? ⟨k1,27,none⟩=some u14∧w.cell? ⟨k2,0,none⟩=some u15∧w.cell? ⟨k2,1,none⟩=some u16∧w.cell? ⟨k2,2,none⟩=some u17∧w.cell? ⟨k3,0,none⟩=some u18∧w.cell? ⟨k3,1,none⟩=some u19) (hb:Below w.heap.size w w') :
  w'.cell? ⟨k1,13,none⟩=some u0∧w'.cell? ⟨k1,14,none⟩=some u1∧w'.cell? ⟨k1,15,none⟩=some u2∧w'.cell? ⟨k1,16,none⟩=some u3∧w'.cell? ⟨k1,17,none⟩=some u4∧w'.cell? ⟨k1,18,none⟩=some u5∧w'.cell? ⟨k1,19,none⟩=some u6∧w'.cell? ⟨k1,20,none⟩=some u7∧w'.cell? ⟨k1,21,none⟩=some u8∧w'.cell? ⟨k1,22,none⟩=some u9∧w'.cell? ⟨k1,23,none⟩=some u10∧w'.cell? ⟨k1,24,none⟩=some u11∧w'.cell? ⟨k1,25,none⟩=some u12∧w'.cell? ⟨k1,26,none⟩=some u13∧w'.cell? ⟨k1,27,none⟩=some u14∧w'.cell? ⟨k2,0,none⟩=some u15∧w'.cell? ⟨k2,1,none⟩=some u16∧w'.cell? ⟨k2,2,none⟩=some u17∧w'.cell? ⟨k3,0,none⟩=some u18∧w'.cell? ⟨k3,1,none⟩=some u19 :=
 ⟨QC hb l1 h.1,QC hb l1 h.2.1,QC hb l1 h.2.2.1,QC hb l1 h.2.2.2.1,QC hb l1 h.2.2.2.2.1,QC hb l1 h.2.2.2.2.2.1,QC hb l1 h.2.2.2.2.2.2.1,QC hb l1 h.2.2.2.2.2.2.2.1,QC hb l1 h.2.2.2.2.2.2.2.2.1,QC hb l1 h.2.2.2.2.2.2.2.2.2.1,QC hb l1 h.2.2.2.2.2.2.2.2.2.2.1,QC hb l1 h.2.2.2.2.2.2.2.2.2.2.2.1,QC hb l1 h.2.2.2.2.2.2.2.2.2.2.2.2.1,QC hb l1 h.2.2.2.2.2.2.2.2.2.2.2.2.2.1,QC hb l1 h.2.2.2.2.2.2.2.2.2.2.2.2.2.2.1,QC hb l2 h.2.2.2.2.2.2.2.2.2.2.2.2.2.2.2.1,QC hb l2 h.2.2.2.2.2.2.2.2.2.2.2.2.2.2.2.2.1,QC hb l2 h.2.2.2.2.2.2.2.2.2.2.2.2.2.2.2.2.2.1,QC hb l3 h.2.2.2.2.2.2.2.2.2.2.2.2.2.2.2.2.2.2.1,QC hb l3 h.2.2.2.2.2.2.2.2.2.2.2.2.2.2.2.2.2.2.2⟩
theorem Ya (b:PBd) (S G gc:Nat) (p:Nat) (op n:Int) (s s1:Afd) (RB:Option Afb) (v:FrV) (w:World) (hl:b.T.length≤1000) (hT:∀ w',Lw S G w w'→TreeIn w' b.tg b.T) (hp:p≤100000) (h:LsAt w S G b gc s)
  (hH:∀ w',Below w.heap.size w w'→Calls Tryz.prog 220 #[.pointer (some ⟨S,0,none⟩),.int .i64 (p:Int),v.val] w' fun e w''=>e=.returned (.tuple #[])∧LsAt w'' S G b gc s1∧Lw S G w' w'')
  (hBh:∀ w',Lw S G w w'→Calls Tryz.prog 221 #[b.val,.agg #[.int .i64 (p:Int),.int .i64 op,.int .i64 n],v.val] w' fun e w''=>∃ u:FrV,e=.returned (.tuple #[u.val,.bool RB.isSome])∧(∀ y,RB=some y→u.is y w'')∧Below w'.heap.size w' w'') :
  Calls Tryz.prog 169 #[.pointer (some ⟨S,0,none⟩),.agg #[.int .i64 (p:Int),.int .i64 op,.int .i64 n],v.val] w fun e w'=>e=.returned (.tuple #[])∧LsAt w' S G b gc (Ajo b.T b.st op n ((p:Int)+(Cd.wd op:Int)) RB s1)∧Lw S G w w':=by
 have hJ:=fun u y q s' w' (k:Lw S G w w') h' hu=>Pj b S G gc s' u y q w' hl (hT w' k) h' hu;have hAr:=fun u y q s' w' (k:Lw S G w w') h' hu=>Io b S G gc s' u y q w' hl (hT w' k) h' hu;have hNx:=fun w'=>Hq p op n w' hp;have hTN:=fun w'=>Lp op w';have hGN:=fun w'=>Iw op w';have hSlt:S<w.heap.size:=lt_of_block h.blk;have hGlt:G<w.heap.size:=(h.free 0).2;have ewd:((p:Int)+(Cd.wd op:Int))=((p+Cd.wd op:Nat):Int):=by omega
 rw[ewd];generalize p+Cd.wd op=nxt at *;generalize hR:Ajo b.T b.st op n (nxt:Int) RB s1=R;unfold Ajo at hR;generalize Afx op=J at *;generalize Af5 op=GO at *;obtain⟨la,ln,lc,sa,sn,sc⟩:=v;simp only[PBd.val,FrV.val]at hH hBh ⊢;have HR:=Ac hR;have HH:=Ac hH;have HBH:=Ac hBh;have HJ:=Ac hJ;have HAR:=Ac hAr;have HNX:=Ac hNx;have HTN:=Ac hTN;have HGN:=Ac hGN;clear hR hH hBh hJ hAr hNx hTN hGN hT hl h;have hB0:=Ai w (O9 (p:Int) op n) (O18 la ln lc sa sn sc);have I0:=Ak w (O9 (p:Int) op n) (O18 la ln lc sa sn sc);have A0:=Ah w (O9 (p:Int) op n) (O18 la ln lc sa sn sc);have i0:=Ab I0 0;obtain⟨a0,a1⟩:=cl2 A0;simp at i0 a0 a1;go_enter Tryz.func169,Tryz.ntmps169;go_wp2_with fail
 refine(Aa HH _ hB0).mono ?_;rintro e w1 ⟨rfl,L1,K1⟩;have K1':=(Lw.of_below (S:=S) (G:=G) hB0).trans K1;have CI1:=K1.stay I0 (by omega) (by omega);have CA1:=K1.stay A0 (by omega) (by omega);have lS:=lt_of_block L1.blk;have lI:=lt_of_block CI1;have lA:=lt_of_block CA1;have r0:w1.cell? ⟨S,13,none⟩=some (.slice b.fa1 b.fl1 b.fc1):=(Ab L1.blk 13).trans rfl;have r1:w1.cell? ⟨S,14,none⟩=some (.slice b.fa2 b.fl2 b.fc2):=(Ab L1.blk 14).trans rfl;have r2:w1.cell? ⟨S,15,none⟩=some (.slice (some ⟨b.tg,0,none⟩) b.T.length b.tc):=(Ab L1.blk 15).trans rfl;have r3:w1.cell? ⟨S,16,none⟩=some (.slice b.ya b.yn b.yc):=(Ab L1.blk 16).trans rfl;have r4:w1.cell? ⟨S,17,none⟩=some (.int .i64 b.cl):=(Ab L1.blk 17).trans rfl;have r5:w1.cell? ⟨S,18,none⟩=some (.int .i64 b.nm):=(Ab L1.blk 18).trans rfl;have r6:w1.cell? ⟨S,19,none⟩=some (.slice b.pa b.pl b.pc):=(Ab L1.blk 19).trans rfl;have r7:w1.cell? ⟨S,20,none⟩=some (.int .i64 b.r1):=(Ab L1.blk 20).trans rfl;have r8:w1.cell? ⟨S,21,none⟩=some (.int .i64 b.r2):=(Ab L1.blk 21).trans rfl;have r9:w1.cell? ⟨S,22,none⟩=some (.int .i64 b.lo):=(Ab L1.blk 22).trans rfl;have r10:w1.cell? ⟨S,23,none⟩=some (.int .i64 b.st):=(Ab L1.blk 23).trans rfl;have r11:w1.cell? ⟨S,24,none⟩=some (.slice b.ca b.cn b.cc):=(Ab L1.blk 24).trans rfl;have r12:w1.cell? ⟨S,25,none⟩=some (.slice b.ha b.hl b.hc):=(Ab L1.blk 25).trans rfl;have r13:w1.cell? ⟨S,26,none⟩=some (.slice b.ma b.ml b.mc):=(Ab L1.blk 26).trans rfl;have r14:w1.cell? ⟨S,27,none⟩=some (.slice b.la b.L.length b.lc):=(Ab L1.blk 27).trans rfl;have m0:w1.cell? ⟨w.heap.size,0,none⟩=some (.int .i64 (p:Int)):=(Ab CI1 0).trans rfl;have m1:w1.cell? ⟨w.heap.size,1,none⟩=some (.int .i64 op):=(Ab CI1 1).trans rfl;have m2:w1.cell? ⟨w.heap.size,2,none⟩=some (.int .i64 n):=(Ab CI1 2).trans rfl;have y0:w1.cell? ⟨w.heap.size+1,0,none⟩=some (.slice la ln lc):=(Ab CA1 0).trans rfl;have y1:w1.cell? ⟨w.heap.size+1,1,none⟩=some (.slice sa sn sc):=(Ab CA1 1).trans rfl;have hT1:=K1';clear I0 A0 hB0 K1 i0 a0 a1
 go_upto_region 2 with fail
 go_cut [6,7] from 8 (fun s6 s7 wx=>∃ (yb:Nat) (u:FrV),s6=.pointer (some ⟨yb,0,none⟩)∧s7=.bool RB.isSome∧wx.heap[yb]?=some (O18 u.la u.ln u.lc u.sa u.sn u.sc)∧w.heap.size+1<yb∧(∀ y,RB=some y→u.is y wx)∧Below w1.heap.size w1 wx)
 case first =>
  have hF20:w1.drew.cell? ⟨S,13,none⟩=some (.slice b.fa1 b.fl1 b.fc1)∧w1.drew.cell? ⟨S,14,none⟩=some (.slice b.fa2 b.fl2 b.fc2)∧w1.drew.cell? ⟨S,15,none⟩=some (.slice (some ⟨b.tg,0,none⟩) b.T.length b.tc)∧w1.drew.cell? ⟨S,16,none⟩=some (.slice b.ya b.yn b.yc)∧w1.drew.cell? ⟨S,17,none⟩=some (.int .i64 b.cl)∧w1.drew.cell? ⟨S,18,none⟩=some (.int .i64 b.nm)∧w1.drew.cell? ⟨S,19,none⟩=some (.slice b.pa b.pl b.pc)∧w1.drew.cell? ⟨S,20,none⟩=some (.int .i64 b.r1)∧w1.drew.cell? ⟨S,21,none⟩=some (.int .i64 b.r2)∧w1.drew.cell? ⟨S,22,none⟩=some (.int .i64 b.lo)∧w1.drew.cell? ⟨S,23,none⟩=some (.int .i64 b.st)∧w1.drew.cell? ⟨S,24,none⟩=some (.slice b.ca b.cn b.cc)∧w1.drew.cell? ⟨S,25,none⟩=some (.slice b.ha b.hl b.hc)∧w1.drew.cell? ⟨S,26,none⟩=some (.slice b.ma b.ml b.mc)∧w1.drew.cell? ⟨S,27,none⟩=some (.slice b.la b.L.length b.lc)∧w1.drew.cell? ⟨w.heap.size,0,none⟩=some (.int .i64 (p:Int))∧w1.drew.cell? ⟨w.heap.size,1,none⟩=some (.int .i64 op)∧w1.drew.cell? ⟨w.heap.size,2,none⟩=some (.int .i64 n)∧w1.drew.cell? ⟨w.heap.size+1,0,none⟩=some (.slice la ln lc)∧w1.drew.cell? ⟨w.heap.size+1,1,none⟩=some (.slice sa sn sc):=⟨r0,r1,r2,r3,r4,r5,r6,r7,r8,r9,r10,r11,r12,r13,r14,m0,m1,m2,y0,y1⟩;have hBZ:Below w1.drew.heap.size w1.drew (w1.alloc (O18 none 0 0 none 0 0)).drew:=⟨rfl,rfl,rfl,(show w1.heap.size≤(w1.alloc (O18 none 0 0 none 0 0)).heap.size by simp),fun k hk=>(((Below.refl _ w1).alloc (Nat.le_refl _) (O18 none 0 0 none 0 0)).block k hk)⟩;have lZ:w1.drew.heap.size≤(w1.alloc (O18 none 0 0 none 0 0)).drew.heap.size:=hBZ.size;have Z0:(w1.alloc (O18 none 0 0 none 0 0)).drew.heap[w1.heap.size]?=some (O18 none 0 0 none 0 0):=Ad w1 _;have hd1:Below w1.heap.size w1 w1.drew:=(Below.refl _ _).drew;have hz1:Below w1.heap.size w1 (w1.alloc (O18 none 0 0 none 0 0)).drew:=hd1.trans hBZ;replace lS:S<w1.drew.heap.size:=lS;replace lI:w.heap.size<w1.drew.heap.size:=lI;replace lA:w.heap.size+1<w1.drew.heap.size:=lA;have HB1:=Ac (Aa HBH w1.drew (K1'.trans (Lw.of_below hd1)));have HB2:=Ac (Aa HBH (w1.alloc (O18 none 0 0 none 0 0)).drew (K1'.trans (Lw.of_below hz1)));go_wp2
  go_region_held3 (fun w'=>w'.cell? ⟨S,13,none⟩=some (.slice b.fa1 b.fl1 b.fc1)∧w'.cell? ⟨S,14,none⟩=some (.slice b.fa2 b.fl2 b.fc2)∧w'.cell? ⟨S,15,none⟩=some (.slice (some ⟨b.tg,0,none⟩) b.T.length b.tc)∧w'.cell? ⟨S,16,none⟩=some (.slice b.ya b.yn b.yc)∧w'.cell? ⟨S,17,none⟩=some (.int .i64 b.cl)∧w'.cell? ⟨S,18,none⟩=some (.int .i64 b.nm)∧w'.cell? ⟨S,19,none⟩=some (.slice b.pa b.pl b.pc)∧w'.cell? ⟨S,20,none⟩=some (.int .i64 b.r1)∧w'.cell? ⟨S,21,none⟩=some (.int .i64 b.r2)∧w'.cell? ⟨S,22,none⟩=some (.int .i64 b.lo)∧w'.cell? ⟨S,23,none⟩=some (.int .i64 b.st)∧w'.cell? ⟨S,24,none⟩=some (.slice b.ca b.cn b.cc)∧w'.cell? ⟨S,25,none⟩=some (.slice b.ha b.hl b.hc)∧w'.cell? ⟨S,26,none⟩=some (.slice b.ma b.ml b.mc)∧w'.cell? ⟨S,27,none⟩=some (.slice b.la b.L.length b.lc)∧w'.cell? ⟨w.heap.size,0,none⟩=some (.int .i64 (p:Int))∧w'.cell? ⟨w.heap.size,1,none⟩=some (.int .i64 op)∧w'.cell? ⟨w.heap.size,2,none⟩=some (.int .i64 n)∧w'.cell? ⟨w.heap.size+1,0,none⟩=some (.slice la ln lc)∧w'.cell? ⟨w.heap.size+1,1,none⟩=some (.slice sa sn sc))
   (first | (with_reducible exact hF20) | (with_reducible exact Nz lS lI lA hF20 hb7) | (with_reducible exact Nz lS lI lA hF20 (hb7.alloc hb7.size _)) | (with_reducible exact Nz lS lI lA hF20 hBZ) | (with_reducible exact Nz lS lI lA hF20 (hBZ.trans (hb7.mono lZ))) | (with_reducible exact Nz lS lI lA hF20 ((hBZ.trans (hb7.mono lZ)).setCell (Nat.le_refl _) _)) | (with_reducible exact Nz lS lI lA hF20 (((hBZ.trans (hb7.mono lZ)).setCell (Nat.le_refl _) _).setCell (Nat.le_refl _) _)))
   (first | (go_at_call 221;refine(Aa HB1).mono ?_;rintro e w7 ⟨u,rfl,hu,hb7⟩;obtain⟨ua,un,uc,va,vn,vc⟩:=u;simp only[FrV.val]) | (go_at_call 221;refine(Aa HB2).mono ?_;rintro e w7 ⟨u,rfl,hu,hb7⟩;obtain⟨ua,un,uc,va,vn,vc⟩:=u;simp only[FrV.val];have Z7:=stay hb7 Z0;have z0':=Ab Z7 0;have z1':=Ab Z7 1;have q0':=Ag Z7 0;have q1':=Ag Z7 1;simp at z0' z1'))
  all_goals
   go_wp2
   go_meet
  ·exact⟨_,⟨ua,un,uc,va,vn,vc⟩,rfl,rfl,Ad w7 _,Nat.lt_of_lt_of_le lA hb7.size,fun y hy=>(hu y hy).below (QN _),(hd1.trans hb7).alloc hb7.size _⟩
  ·exact⟨_,⟨ua,un,uc,va,vn,vc⟩,rfl,rfl,Ei Z7 _ _,lA,fun y hy=>(hu y hy).set2 Z7 _ _,((QB hz1 hb7).setCell (Nat.le_refl _) _).setCell (Nat.le_refl _) _⟩
 case rest =>
  obtain⟨yb,u,rfl,rfl,YB,lyb,hu,hb2⟩:=hcut;obtain⟨ua,un,uc,va,vn,vc⟩:=u;simp only at YB;have L2:=L1.below hb2;have K2:=K1'.trans (Lw.of_below hb2);have CI2:=stay hb2 CI1;clear L1 K1' hT1 CI1 CA1 lS lI lA hb2 HBH HH r0 r1 r2 r3 r4 r5 r6 r7 r8 r9 r10 r11 r12 r13 r14 m0 m1 m2 y0 y1;have hr:=Aa HR;clear HR;cases RB with
  | none =>
   simp only at hr;have x29:=Ab L2.blk 29;have f29:=Ag L2.blk 29;have lS:=lt_of_block L2.blk;simp at x29;obtain⟨g4,k4⟩:=L2.stop;rw[hr]at g4;clear hr;go_wp2;refine bodyPost_ret (v:=.tuple #[]) (by simp[results,Tryz.results169,go_sem]) rfl ?_;exact⟨rfl,g4,K2.trans k4⟩
  | some y =>
   have hy:=hu y rfl;obtain⟨i0,i1,i2⟩:=cl3 CI2;obtain⟨y0,y1⟩:=cl2 YB;have lI:=lt_of_block CI2;have lY:=lt_of_block YB;simp at i0 i1 i2 y0 y1;simp only at hr;clear hu;go_wp2_with fail
   refine(Aa HTN _).mono ?_;rintro e w3 ⟨rfl,rfl⟩
   go_upto_if 31 with fail
   go_cut [8] from 9 (fun _ wx=>∃ t:Afd,Hid ((if GO=true then Afo b.T b.st y (nxt:Int) t else t)=R)∧LsAt wx S G b gc t∧Lw S G w wx∧wx.heap[w.heap.size]?=some (O9 (p:Int) op n)∧wx.heap[yb]?=some (O18 ua un uc va vn vc)∧FrV.is ⟨ua,un,uc,va,vn,vc⟩ y wx)
   case first =>
    cases J with
    | false =>
     simp only[Bool.false_eq_true,if_false]at hr;have HA2:=Ac hr;clear hr;go_wp2
     go_meet
     case rel=>exact⟨_,HA2,L2,K2,CI2,YB,hy⟩
    | true =>
     simp only[if_true]at hr;have HA2:=Ac hr;clear hr;have hj:=Aa HJ ⟨ua,un,uc,va,vn,vc⟩ y n s1 _ K2 L2 hy;simp only[FrV.val]at hj;have HJ4:=Ac hj;clear hj;go_wp2_with fail
     refine(Aa HJ4).mono ?_;rintro e w4 ⟨rfl,L4,K4⟩;have CI4:=K4.stay CI2 (by omega) (by omega);have YB4:=K4.stay YB (by omega) (by omega);have hy4:=hy.lw K4;go_wp2
     go_meet
     case rel=>exact⟨_,HA2,L4,K2.trans K4,CI4,YB4,hy4⟩
   case rest =>
    obtain⟨t,HA,L5,K5,CI5,YB5,hy5⟩:=hcut;clear hr L2 K2 CI2 YB hy i0 i1 i2 y0 y1 lI lY HJ HTN;have hr:=Aa HA;obtain⟨i0,i1,i2⟩:=cl3 CI5;obtain⟨y0,y1⟩:=cl2 YB5;have lI:=lt_of_block CI5;have lY:=lt_of_block YB5;simp at i0 i1 i2 y0 y1;clear HA;go_wp2_with fail
    refine(Aa HGN _).mono ?_;rintro e w6 ⟨rfl,rfl⟩;cases GO with
    | false =>
     simp only[Bool.false_eq_true,if_false]at hr;subst hr;go_wp2
     go_end0
     exact⟨rfl,L5,K5⟩
    | true =>
     simp only[if_true]at hr;subst hr;go_wp2_with fail
     refine(Aa HNX _).mono ?_;rintro e w7 ⟨rfl,hb7⟩;have L7:=L5.below hb7;have K7:=K5.trans (Lw.of_below hb7);have YB7:=stay hb7 YB5;have hy7:=hy5.below hb7;obtain⟨z0,z1⟩:=cl2 YB7;have lY7:=lt_of_block YB7;simp at z0 z1;have ha:=Aa HAR ⟨ua,un,uc,va,vn,vc⟩ y (nxt:Int) t _ K7 L7 hy7;simp only[FrV.val]at ha;have HA7:=Ac ha;clear ha L5 K5 CI5 YB5 hy5 hb7 y0 y1 i0 i1 i2;go_wp2_with fail
     refine(Aa HA7).mono ?_;rintro e w8 ⟨rfl,L8,K8⟩;go_wp2
     go_end0
     exact⟨rfl,L8,K7.trans K8⟩
end Go.Proofs.YtpcgnjolfahacaaGreat
