/- a part of the proofs -/
import Derived.Laws.IdiomStrings
import Derived.Test.YtpcgnjolfahacaaGreatPk05
set_option maxRecDepth 100000
set_option maxHeartbeats 40000000
set_option linter.unusedVariables false
set_option linter.unusedSimpArgs false
namespace Go.Proofs.YtpcgnjolfahacaaGreat
open Go.RowKit
def Seg (s:List UInt8) (i j:Int) (l:List UInt8):Prop:=0≤i∧i≤j∧j≤(s.length:Int)∧(s.drop i.toNat).take (j-i).toNat=l
theorem Seg.app {s:List UInt8}{i j k:Int}{l r:List UInt8} (h:Seg s i j l) (g:Seg s j k r):Seg s i k (l++r):=by
 obtain⟨a,b,c,d⟩:=h;obtain⟨a',b',c',d'⟩:=g;refine⟨a,by omega,c',?_⟩;rw[show (k-i).toNat=(j-i).toNat+(k-j).toNat by omega,List.take_add,d,List.drop_drop,show i.toNat+(j-i).toNat=j.toNat by omega,d']
theorem Seg.nil {s:List UInt8}{i:Int} (h0:0≤i) (h1:i≤(s.length:Int)):Seg s i i []:=⟨h0,by omega,h1,by simp⟩
theorem Seg.one {s:List UInt8}{i:Int} (h0:0≤i) (h1:i<(s.length:Int)):Seg s i (i+1) [Zy (Rf.at' s i)]:=by
 refine⟨h0,by omega,by omega,?_⟩;have hl:i.toNat<s.length:=by omega
 rw[show (i+1-i).toNat=1 by omega,List.drop_eq_getElem_cons hl];simp only[List.take_succ_cons,List.take_zero,List.cons.injEq,and_true];unfold Rf.at' Zy;rw[if_neg (by omega),if_neg (by omega),List.getElem?_eq_getElem hl];simp only[Option.getD_some];have:=(s[i.toNat]).toNat_lt;rw[show (((s[i.toNat]).toNat:Int) % 256).toNat=(s[i.toNat]).toNat by omega]
 simp
theorem Zt {s:List UInt8}{i:Int} (h:0≤Rf.at' s i):0≤i∧i<(s.length:Int):=by
 unfold Rf.at' at h;by_cases h1:i<0
 ·rw[if_pos h1]at h;omega
 ·rw[if_neg h1]at h;by_cases h2:(s.length:Int)≤i
  ·rw[if_pos h2]at h;omega
  ·omega
theorem Ey {s:List UInt8}{i a b:Int} (ha:0≤a) (h:0≤Rf.cnt s i a b):Rf.cnt s i a b=Rf.at' s i∧0≤i∧i<(s.length:Int):=by
 unfold Rf.cnt at h ⊢;by_cases h1:Rf.at' s i<a
 ·rw[if_pos h1]at h;omega
 ·rw[if_neg h1]at h ⊢;by_cases h2:b<Rf.at' s i
  ·rw[if_pos h2]at h;omega
  ·rw[if_neg h2];exact⟨rfl,Zt (by omega)⟩
theorem Qe (s:List UInt8) (i:Int) (h0:0≤i) (k:Nat) (h:i+2*(k:Int)≤(s.length:Int)):Seg s i (i+2*(k:Int)) (Aaa (Rf.tys s i k)):=by
 induction k with
 | zero=>simpa[Rf.tys,Aaa] using Seg.nil h0 (by omega)
 | succ j ih =>
  have a:=ih (by omega);have b:=(Seg.one (s:=s) (i:=i+2*(j:Int)) (by omega) (by omega)).app (Seg.one (s:=s) (i:=i+2*(j:Int)+1) (by omega) (by omega));have c:=a.app b;rw[Rf.tys,Aaa,List.flatMap_append];rw[show i+2*((j+1:Nat):Int)=i+2*(j:Int)+1+1 by omega]
  simpa[Aaa,Aav] using c
theorem Wy (s:List UInt8) (i:Int) (h0:0≤i) (k:Nat) (h:i+(k:Int)≤(s.length:Int)):Seg s i (i+(k:Int)) ((Rf.codeTo s i k).map Zy):=by
 induction k with
 | zero=>simpa[Rf.codeTo] using Seg.nil h0 (by omega)
 | succ j ih =>
  have c:=(ih (by omega)).app (Seg.one (s:=s) (i:=i+(j:Int)) (by omega) (by omega));rw[Rf.codeTo,List.map_append];rw[show i+((j+1:Nat):Int)=i+(j:Int)+1 by omega]
  simpa using c
theorem Vd (s:List UInt8) (i:Int) (h0:0≤i) (k:Nat) (h:i+1+4*(k:Int)≤(s.length:Int)):Seg s (i+1) (i+1+4*(k:Int)) ((Rf.hndTo s i k).flatMap Abu):=by
 induction k with
 | zero=>simpa[Rf.hndTo] using Seg.nil (s:=s) (i:=i+1) (by omega) (by omega)
 | succ j ih =>
  have b:=(((Seg.one (s:=s) (i:=i+1+4*(j:Int)) (by omega) (by omega)).app (Seg.one (s:=s) (i:=i+1+4*(j:Int)+1) (by omega) (by omega))).app
   (Seg.one (s:=s) (i:=i+1+4*(j:Int)+1+1) (by omega) (by omega))).app (Seg.one (s:=s) (i:=i+1+4*(j:Int)+1+1+1) (by omega) (by omega))
  have c:=(ih (by omega)).app b;rw[Rf.hndTo,List.flatMap_append];rw[show i+1+4*((j+1:Nat):Int)=i+1+4*(j:Int)+1+1+1+1 by omega];rw[show i+1+4*(j:Int)+1+1+1=i+1+4*(j:Int)+3 by omega,show i+1+4*(j:Int)+1+1=i+1+4*(j:Int)+2 by omega]at *
  simpa[Abu,Rf.hndAt] using c
theorem V7 (s:List UInt8) (i:Int) (h0:0≤i) (h:0≤(Rf.hnds s i).2):Seg s i (Rf.hnds s i).2 (Abj (Rf.hnds s i).1):=by
 unfold Rf.hnds at h ⊢;by_cases h1:Rf.cnt s i 0 4<0
 ·rw[if_pos h1]at h;simp at h
 ·rw[if_neg h1]at h ⊢;by_cases h2:(s.length:Int)<i+1+4*Rf.cnt s i 0 4
  ·rw[if_pos h2]at h;simp at h
  ·rw[if_neg h2];obtain⟨e,_,hl⟩:=Ey (by omega) (show 0≤Rf.cnt s i 0 4 by omega);have hc:((Rf.cnt s i 0 4).toNat:Int)=Rf.cnt s i 0 4:=by omega
   have b:=Vd s i h0 (Rf.cnt s i 0 4).toNat (by rw[hc];omega);rw[hc]at b;have a:=(Seg.one (s:=s) (i:=i) h0 hl).app b;simp only;unfold Abj;rw[T2,hc,e]at *;exact a
theorem Vq (s:List UInt8) (i:Int) (h0:0≤i) (h:0≤(Rf.mth s i).2):Seg s i (Rf.mth s i).1.mapsAt (Abi (Rf.mth s i).1.m):=by
 unfold Rf.mth at h ⊢;dsimp only at h ⊢;have n1:¬ (0:Int)≤-1:=by omega
 by_cases h1:Rf.cnt s (i+2) 0 4<0
 ·rw[if_pos h1]at h;exact absurd h n1
 rw[if_neg h1]at h ⊢;obtain⟨e1,_,l1⟩:=Ey (by omega) (show 0≤Rf.cnt s (i+2) 0 4 by omega);generalize Rf.cnt s (i+2) 0 4=p at *;have hp:((p.toNat:Nat):Int)=p:=by omega
 generalize hj:i+3+2*p=j at *;by_cases h2:Rf.cnt s (j+2) 0 8<0
 ·rw[if_pos h2]at h;exact absurd h n1
 rw[if_neg h2]at h ⊢;obtain⟨e2,_,l2⟩:=Ey (by omega) (show 0≤Rf.cnt s (j+2) 0 8 by omega);generalize Rf.cnt s (j+2) 0 8=lo at *;by_cases h3:Rf.cnt s (j+3) 0 8<0
 ·rw[if_pos h3]at h;exact absurd h n1
 rw[if_neg h3]at h ⊢;obtain⟨e3,_,l3⟩:=Ey (by omega) (show 0≤Rf.cnt s (j+3) 0 8 by omega);generalize Rf.cnt s (j+3) 0 8=st at *;by_cases h4:Rf.cnt s (j+4) 1 120<0
 ·rw[if_pos h4]at h;exact absurd h n1
 rw[if_neg h4]at h ⊢;obtain⟨e4,_,l4⟩:=Ey (by omega) (show 0≤Rf.cnt s (j+4) 1 120 by omega);generalize Rf.cnt s (j+4) 1 120=n at *;have hn:((n.toNat:Nat):Int)=n:=by omega
 by_cases h5:(s.length:Int)<j+5+n
 ·rw[if_pos h5]at h;exact absurd h n1
 rw[if_neg h5]at h ⊢;by_cases h6:(Rf.hnds s (j+5+n)).2<0
 ·rw[if_pos h6]at h;exact absurd h n1
 rw[if_neg h6]at h ⊢;simp only;have a1:=((Seg.one (s:=s) (i:=i) h0 (by omega)).app (Seg.one (s:=s) (i:=i+1) (by omega) (by omega))).app (Seg.one (s:=s) (i:=i+1+1) (by omega) (by omega));have a2:=Qe s (i+3) (by omega) p.toNat (by rw[hp];omega);rw[hp,hj]at a2;have a3:=(Seg.one (s:=s) (i:=j) (by omega) (by omega)).app (Seg.one (s:=s) (i:=j+1) (by omega) (by omega));have a4:=((Seg.one (s:=s) (i:=j+2) (by omega) (by omega)).app (Seg.one (s:=s) (i:=j+2+1) (by omega) (by omega))).app (Seg.one (s:=s) (i:=j+2+1+1) (by omega) (by omega));have a5:=Wy s (j+5) (by omega) n.toNat (by rw[hn];omega);rw[hn]at a5;have a6:=V7 s (j+5+n) (by omega) (by omega);rw[show i+1+1+1=i+3 by omega,show i+1+1=i+2 by omega]at a1;rw[show j+1+1=j+2 by omega]at a3;rw[show j+2+1+1+1=j+5 by omega,show j+2+1+1=j+4 by omega,show j+2+1=j+3 by omega]at a4;have a:=((((a1.app a2).app a3).app a4).app a5).app a6;unfold Abi;simp only;rw[← e1,← e2,← e3,← e4]at a;rw[Nq,Si,hp,hn]
 simpa[Aav] using a
def Segs (s:List UInt8) (e:Int):Int→List Rf.Mth→Prop
 | i,[]=>i=e
 | i,x::r=>Seg s i x.mapsAt (Abi x.m)∧Segs s e x.fin r
theorem Segs.snoc {s:List UInt8}{i e:Int}{l:List Rf.Mth}{x:Rf.Mth} (h:Segs s e i l) (h1:Seg s e x.mapsAt (Abi x.m)):Segs s x.fin i (l++[x]):=by
 induction l generalizing i with
 | nil=>rw[Segs]at h;subst h;exact⟨h1,rfl⟩
 | cons y r ih=>exact⟨h.1,ih h.2⟩
theorem Wd (s:List UInt8) (n:Nat) (i:Int) (_hi:0≤i) (h:0≤(Rf.rep (Rf.mth s) n i).2):Segs s (Rf.rep (Rf.mth s) n i).2 i (Rf.rep (Rf.mth s) n i).1∧(Rf.rep (Rf.mth s) n i).1.length=n:=by
 induction n with
 | zero=>simp[Rf.rep,Segs]
 | succ k ih =>
  unfold Rf.rep at h ⊢;by_cases h1:(Rf.rep (Rf.mth s) k i).2<0
  ·rw[if_pos h1]at h;simp at h
  ·rw[if_neg h1]at h ⊢;by_cases h2:(Rf.mth s (Rf.rep (Rf.mth s) k i).2).2<0
   ·rw[if_pos h2]at h;simp at h
   ·rw[if_neg h2]at h ⊢;simp only at h ⊢;obtain⟨g1,g2,g3⟩:=Su s (Rf.rep (Rf.mth s) k i).2 (by omega) h;obtain⟨i1,i2⟩:=ih (by omega);rw[← g3];exact⟨i1.snoc (Vq s _ (by omega) h),by simp[i2]⟩
theorem Wx (s:List UInt8) (n:Nat) (i:Int) (hi:0≤i) (h:0≤(Rf.rep (Rf.cls s) n i).2) (hl:(Rf.rep (Rf.cls s) n i).2≤(s.length:Int)) :
  Seg s i (Rf.rep (Rf.cls s) n i).2 ((Rf.rep (Rf.cls s) n i).1.flatMap Aat)∧(Rf.rep (Rf.cls s) n i).1.length=n:=by
 induction n with
 | zero =>
  simp only[Rf.rep]at hl ⊢;exact⟨by simpa using Seg.nil hi hl,rfl⟩
 | succ k ih =>
  unfold Rf.rep at h hl ⊢;by_cases h1:(Rf.rep (Rf.cls s) k i).2<0
  ·rw[if_pos h1]at h;simp at h
  ·rw[if_neg h1]at h hl ⊢;by_cases h2:(Rf.cls s (Rf.rep (Rf.cls s) k i).2).2<0
   ·rw[if_pos h2]at h;simp at h
   ·rw[if_neg h2]at h hl ⊢;simp only at h hl ⊢;have g:=Yy s (Rf.rep (Rf.cls s) k i).2 (by omega) h;obtain⟨i1,i2⟩:=ih (by omega) (by omega);generalize Rf.rep (Rf.cls s) k i=q at *;refine⟨?_,by simp[i2]⟩;rw[List.flatMap_append];refine i1.app ?_;unfold Rf.cls at h2 hl ⊢;by_cases h3:Rf.cnt s (q.2+1) 0 4<0
    ·rw[if_pos h3]at h2;simp at h2
    ·rw[if_neg h3]at h2 hl ⊢;obtain⟨e,_,l1⟩:=Ey (by omega) (show 0≤Rf.cnt s (q.2+1) 0 4 by omega);generalize Rf.cnt s (q.2+1) 0 4=p at *;have hp:((p.toNat:Nat):Int)=p:=by omega
     simp only at hl ⊢;have a:=(Seg.one (s:=s) (i:=q.2) (by omega) (by omega)).app (Seg.one (s:=s) (i:=q.2+1) (by omega) (by omega));have b:=Qe s (q.2+2) (by omega) p.toNat (by rw[hp];omega);rw[hp]at b;rw[show q.2+1+1=q.2+2 by omega]at a;have c:=a.app b;simp only[List.flatMap_cons,List.flatMap_nil,List.append_nil];unfold Aat;simp only;rw[← e]at c;rw[Nq,hp]
     simpa using c
theorem W7 (s:List UInt8) (h:(Rf.fil s).2.2=(s.length:Int)):∃ i,Seg s 0 i (Abv (Rf.fil s).1 ((Rf.fil s).2.1.length:Int))∧Segs s (s.length:Int) i (Rf.fil s).2.1:=by
 unfold Rf.fil at h ⊢;have n1:¬ (-1:Int)=(s.length:Int):=by omega
 by_cases h1:Rf.at' s 0≠83
 ·rw[if_pos h1]at h;exact absurd h n1
 rw[if_neg h1]at h ⊢;by_cases h2:Rf.at' s 1≠77
 ·rw[if_pos h2]at h;exact absurd h n1
 rw[if_neg h2]at h ⊢;by_cases h3:Rf.cnt s 2 0 6<0
 ·rw[if_pos h3]at h;exact absurd h n1
 rw[if_neg h3]at h ⊢;dsimp only at h ⊢;obtain⟨e3,_,l3⟩:=Ey (by omega) (show 0≤Rf.cnt s 2 0 6 by omega);generalize Rf.cnt s 2 0 6=n at *;by_cases h4:(Rf.rep (Rf.cls s) n.toNat 3).2<0
 ·rw[if_pos h4]at h;exact absurd h n1
 rw[if_neg h4]at h ⊢;by_cases h5:Rf.cnt s (Rf.rep (Rf.cls s) n.toNat 3).2 1 6<0
 ·rw[if_pos h5]at h;exact absurd h n1
 rw[if_neg h5]at h ⊢;obtain⟨e5,_,l5⟩:=Ey (by omega) (show 0≤Rf.cnt s (Rf.rep (Rf.cls s) n.toNat 3).2 1 6 by omega);have hc:=Wx s n.toNat 3 (by omega) (by omega) (by omega);generalize Rf.rep (Rf.cls s) n.toNat 3=q at *;generalize Rf.cnt s q.2 1 6=k at *;by_cases h6:(Rf.rep (Rf.mth s) k.toNat (q.2+1)).2<0
 ·rw[if_pos h6]at h;exact absurd h n1
 rw[if_neg h6]at h ⊢;have hm:=Wd s k.toNat (q.2+1) (by omega) (by omega);generalize Rf.rep (Rf.mth s) k.toNat (q.2+1)=r at *;simp only at h ⊢;refine⟨q.2+1,?_,by rw[← h];exact hm.1⟩;have a:=((Seg.one (s:=s) (i:=0) (by omega) (by omega)).app (Seg.one (s:=s) (i:=0+1) (by omega) (by omega))).app (Seg.one (s:=s) (i:=0+1+1) (by omega) (by omega));have b:=(a.app hc.1).app (Seg.one (s:=s) (i:=q.2) (by omega) (by omega));have g1:Rf.at' s 0=83:=by simpa using h1
 have g2:Rf.at' s (0+1)=77:=by simpa using h2
 have g3:Rf.at' s (0+1+1)=n:=by rw[e3];rfl
 rw[g1,g2,g3,← e5]at b;unfold Abv;rw[hc.2,hm.2,show ((n.toNat:Nat):Int)=n by omega,show ((k.toNat:Nat):Int)=k by omega]
 simpa[Zy] using b
theorem Pv {s:ByteArray}{i j:Int}{l:List UInt8} (h:Seg s.data.toList i j l):(s.extract i.toNat j.toNat).data.toList=l:=by
 obtain⟨a,b,c,d⟩:=h;rw[ByteArray.data_extract,Array.toList_extract,List.extract_eq_take_drop];rw[← d]
 congr 1
 omega
theorem Tc {a b:ByteArray} (h:a.data.toList=b.data.toList):a=b:=by
 cases a;cases b
 congr 1
 exact Array.toList_inj.1 h
theorem R9 (s:ByteArray) (ms:List Rf.Mth):∀ (out:ByteArray) (i j:Int) (pre:List UInt8),Seg s.data.toList i j pre→Segs s.data.toList (s.size:Int) j ms →
  (∀ x∈ms,0≤x.fin∧x.fin≤(s.size:Int)) →
  (Rf.strip s out i ms).data.toList=out.data.toList++pre++ms.flatMap (fun x=>Aad x.m.bare):=by
 induction ms with
 | nil =>
  intro out i j pre h g _;rw[Segs]at g;subst g;rw[Rf.strip,ByteArray.data_append,Array.toList_append];have:=Pv h;simp only[Int.toNat_natCast]at this;rw[this]
  simp
 | cons x r ih =>
  intro out i j pre h g hf;rw[Rf.strip,ih _ x.fin x.fin [] (Seg.nil (hf x (List.mem_cons_self ..)).1 (by simpa using (hf x (List.mem_cons_self ..)).2)) g.2 (fun y hy=>hf y (List.mem_cons_of_mem _ hy))];rw[ByteArray.data_append,ByteArray.data_append,Array.toList_append,Array.toList_append,Pv (h.app g.1)];rw[List.flatMap_cons];have:Aad x.m.bare=Abi x.m++[0]:=by
   unfold Aad;rfl
  rw[this]
  simp
theorem Tq {e i:Int}{l:List Rf.Mth} (h:Rf.chain e i l) (h0:0≤i):∀ x∈l,0≤x.fin∧x.fin≤e:=by
 induction l generalizing i with
 | nil=>simp
 | cons y r ih =>
  obtain⟨a,b,c⟩:=h;have:=W3 c;intro x hx;simp only[List.mem_cons]at hx;rcases hx with rfl|hx
  ·omega
  ·exact ih c (by omega) x hx
theorem M7 (s:ByteArray) (h:(Rf.formed s.data.toList).1=0):Rf.stripD s=⟨(Aau (Rd.Fil.bare (Rd.read s.data.toList).1)).toArray⟩:=by
 obtain⟨hf,hl⟩:=Kh _ h;obtain⟨i,h1,h2⟩:=W7 _ hf;obtain⟨i',h0,hch⟩:=Tj _ hf;have hfin:=Tq hch h0;obtain⟨r1,r2⟩:=He s.data.toList;rw[if_neg (by omega),if_neg (fun g=>g hf)]at r1;obtain⟨c1,c2⟩:=r2 r1;unfold Rf.stripD;rw[if_neg (fun g=>g h)];apply Tc;simp only[Array.length_toList,ByteArray.size_data]at h2 hfin;rw[R9 s _ ⟨#[]⟩ 0 i _ h1 h2 hfin];unfold Aau Rd.Fil.bare;rw[c1,c2];simp[List.flatMap_map]
theorem Tryz.infoU8:(Tryz.prog.info? 5).map (fun i=>(i.zero,i.size,i.bytes))=some (some (.int .u8 0),1,1):=by kernel_rfl
def Adt (l:List UInt8):List Value:=l.map fun b=>.int .u8 (b.toNat:Int)
theorem Afi (x:Int):((Zy x).toNat:Int)=x % 256:=by
 unfold Zy;have h0:=Int.emod_nonneg x (show (256:Int)≠0 by omega);have h1:=Int.emod_lt_of_pos x (show (0:Int)<256 by omega);rw[UInt8.toNat_ofNat'];rw[Nat.mod_eq_of_lt (by omega)];omega
structure WG (n:Nat) (w w':World):Prop where
 bel:Below n w w'
 kp:∀ (k:Nat) (cs:Array Value) (t:TypeId),w.heap[k]?=some (.cells cs t (0,0))→t≠5→t≠137→w'.heap[k]?=some (.cells cs t (0,0))
theorem WG.refl (n:Nat) (w:World):WG n w w:=⟨Below.refl _ _,fun _ _ _ h _ _=>h⟩
theorem WG.trans {n:Nat}{a b c:World} (h:WG n a b) (k:WG n b c):WG n a c:=⟨h.bel.trans k.bel,fun i cs t hc h1 h2=>k.kp i cs t (h.kp i cs t hc h1 h2) h1 h2⟩
theorem WG.alloc {n:Nat}{a b:World} (h:WG n a b) (hn:n≤b.heap.size) (o:Obj):WG n a (b.alloc o) :=
 ⟨h.bel.alloc hn o,fun i cs t hc h1 h2=>by
  have:=h.kp i cs t hc h1 h2;rw[Below.heap_alloc b o i (lt_of_block this)];exact this⟩
def WrAt (w:World) (n B:Nat) (l:List UInt8):Prop:=∃ v,w.heap[B]?=some (.cells #[v] 137 (0,0))∧n≤B∧w.ownsRow n 5 1 v l.length (Adt l)
theorem WrAt.alloc {w:World}{n B:Nat}{l:List UInt8} (h:WrAt w n B l) (o:Obj):WrAt (w.alloc o) n B l:=by
 obtain⟨v,h1,h2,h3⟩:=h;exact⟨v,by rw[Below.heap_alloc w o B (lt_of_block h1)];exact h1,h2,h3.alloc o⟩
theorem WrAt.lt {w:World}{n B:Nat}{l:List UInt8} (h:WrAt w n B l):n≤B∧B<w.heap.size:=by
 obtain⟨v,h1,h2,_⟩:=h;exact⟨h2,lt_of_block h1⟩
theorem WG.grown {n:Nat}{a b c:World}{v:Value}{m:Nat}{xs:List Value} (h:WG n a b) (hg:b.grownBy c v.ownBlock) (ho:b.ownsRow n 5 1 v m xs) (hn:n≤b.heap.size):WG n a c :=
 ⟨h.bel.grown hg hn (fun k e=>(ho.lt k e).1),fun k cs t hc h1 h2=>Kp.of_grown (b:=0) hg ho k cs t (Nat.zero_le _) (h.kp k cs t hc h1 h2) (by simpa using h1)⟩
theorem WG.set {n B i:Nat}{a b:World}{cs:Array Value} (h:WG n a b) (hB:b.heap[B]?=some (.cells cs 137 (0,0))) (hn:n≤B) (u:Value):WG n a (b.setCell ⟨B,i,none⟩ u) :=
 ⟨h.bel.setCell (by simpa using hn) u,fun k cs' t hc h1 h2=>Kp.set (b:=0) hB u k cs' t (Nat.zero_le _) (h.kp k cs' t hc h1 h2) (by simpa using h2)⟩
theorem Aw {n b size m:Nat}{t:TypeId}{v:Value}{xs:List Value}{w w':World} (h:w.ownsRow b t size v m xs) (hg:WG n w w') (h1:t≠5) (h2:t≠137):w'.ownsRow b t size v m xs:=by
 obtain⟨e1,e2|⟨g,cap,cur,a,c,d,r⟩⟩:=h
 ·exact⟨e1,.inl e2⟩
 ·exact⟨e1,.inr ⟨g,cap,cur,a,c,hg.kp g cur t d h1 h2,r⟩⟩
theorem Afh (l r:List UInt8):Adt (l++r)=Adt l++Adt r:=by simp[Adt]
theorem Abh (l:List (Int × Int)):(Aaa l).length=2*l.length:=by
 induction l with
 | nil=>rfl
 | cons x r ih=>simp[Aaa,Aav]at ih ⊢;omega
theorem Ap (n B:Nat) (l:List UInt8) (x:Int) (w:World) (hl:l.length≤100000) (hW:WrAt w n B l) :
  Calls Tryz.prog 71 #[.pointer (some ⟨B,0,none⟩),.int .i64 x] w fun e w'=>e=.returned (.tuple #[])∧WrAt w' n B (l++[Zy x])∧WG n w w':=by
 obtain⟨v,hb,hnB,hown⟩:=hW;obtain⟨i0,hi,hz0,hz1,hz2⟩:=info_parts Tryz.infoU8;have c0:=Ab hb 0;have f0:=Af hb 0;have lB:=lt_of_block hb;simp at c0;obtain⟨va,vc,rfl⟩:=Ag hown;go_enter Tryz.func71,Tryz.ntmps71;go_wp2_with (at_builtin;refine wpList_append_own _ rfl _ _ 120 rfl n 5 i0 _ 1 1 Tryz.underlying120 hi hz0 hz1 hz2 rfl (by decide) _ _ _ rfl (hown.alloc _) ⟨w.heap.size,0,none⟩ 1 1 [.int .u8 (x % 256)] rfl rfl ?c1 ?c2 ?c3 ?c4 ?c5 ?_)
 case c1=>exact Av _ _ _ _ rfl
 case c2=>intro u hu;simp at hu;subst hu;rfl
 case c3=>unfold maxLen;omega
 case c4=>omega
 case c5=>simp;omega
 intro v' w2 hown2 hgrow _;obtain⟨va',vc',rfl⟩:=Ag hown2;have hb1:=Ae hb (O14 (x % 256));have hown1:=hown.alloc (O14 (x % 256));have hG:=((WG.refl n w).alloc (by omega) (O14 (x % 256))).grown hgrow hown1 (by simp;omega);have hb2:w2.heap[B]?=some (O15 va l.length vc):=Kp.of_grown (b:=0) hgrow hown1 B _ _ (Nat.zero_le _) hb1 (by decide);have c2:=Ab hb2 0;have f2:=Af hb2 0;have lB2:=lt_of_block hb2;simp at c2;clear c0 f0 lB;have hown3:(w2.setCell ⟨B,0,none⟩ (.slice va' (l.length+1) vc')).ownsRow n 5 1 (.slice va' (l.length+1) vc') (l++[Zy x]).length (Adt (l++[Zy x])):=by
  have:w2.ownsRow n 5 1 (.slice va' (l.length+1) vc') (l++[Zy x]).length (Adt (l++[Zy x])):=by
   rw[Afh,List.length_append]
   simpa[Adt,Afi] using hown2
  exact As this (Kp.set (b:=n) hb2 (.slice va' (l.length+1) vc')) (by decide)
 have hb3:(w2.setCell ⟨B,0,none⟩ (.slice va' (l.length+1) vc')).heap[B]?=some (O15 va' (l.length+1) vc'):=by rw[Al hb2];rfl
 have hG3:=hG.set (i:=0) hb2 hnB (.slice va' (l.length+1) vc');go_wp2
 go_end0
 exact⟨rfl,⟨_,hb3,hnB,hown3⟩,hG3⟩
theorem Im (n B:Nat) (l:List UInt8) (k x:Int) (w:World) (hl:l.length+2≤100000) (hW:WrAt w n B l) :
  Calls Tryz.prog 114 #[.pointer (some ⟨B,0,none⟩),.agg #[.int .i64 k,.int .i64 x]] w fun e w'=>e=.returned (.tuple #[])∧WrAt w' n B (l++Aav (k,x))∧WG n w w':=by
 have C0:=Ad w (O7 k x);have hlt:=hW.lt;have G0:=(WG.refl n w).alloc (by omega) (O7 k x);have hW0:=hW.alloc (O7 k x);go_enter Tryz.func114,Tryz.ntmps114
 (go_wp2_with fail);refine(Ap n B l k _ (by omega) hW0).mono ?_;rintro e w1 ⟨rfl,hW1,hg1⟩
 have C1:=hg1.kp _ _ _ C0 (by decide) (by decide);have x1:=Ab C1 1;have l1:=lt_of_block C1;simp at x1
 (go_wp2_with fail);refine(Ap n B (l++[Zy k]) x _ (by simp;omega) hW1).mono ?_;rintro e w2 ⟨rfl,hW2,hg2⟩
 go_wp2
 go_end0
 exact⟨rfl,by simpa[Aav] using hW2,(G0.trans hg1).trans hg2⟩
theorem Dk (n B b:Nat) (l:List UInt8) (ts:List (Int × Int)) (a:Option Addr) (m c:Nat) (w:World) (hl:l.length+2*ts.length≤100000) (hW:WrAt w n B l) (hT:TysAt w b (.slice a m c) ts) :
  Calls Tryz.prog 72 #[.pointer (some ⟨B,0,none⟩),.slice a m c] w fun e w'=>e=.returned (.tuple #[])∧WrAt w' n B (l++Aaa ts)∧WG n w w':=by
 obtain⟨xa,xc,hsh⟩:=Ag hT;simp only[Value.slice.injEq]at hsh;obtain⟨rfl,hn1,rfl⟩:=hsh;subst hn1;go_enter Tryz.func72,Tryz.ntmps72;go_wp2
 go_loopw [8] (fun v wr=>∃ k:Nat,k≤ts.length∧v=.int .i64 (k:Int)∧WrAt wr n B (l++Aaa (ts.take k))∧WG n w wr)
  (fun v _=>ts.length-(intOf v).toNat)
 case atStart=>exact⟨0,by omega,rfl,by simpa[Aaa] using hW,WG.refl n w⟩
 case round =>
  obtain⟨k,hk,rfl,hWr,hG⟩:=hrel;have hlt:=hWr.lt;by_cases hkn:k<ts.length
  ·obtain⟨g,hg,hglt,hbg,hcell⟩:=Ao (Aw hT hG (by decide) (by decide)) (by omega);obtain⟨e1,e2,e3⟩:=Co ts k hkn;have x0:=hcell (k*2) (by omega);have x1:=hcell (k*2+1) (by omega);rw[e1]at x0;rw[e2]at x1;have hd:ts.take (k+1)=ts.take k++[ts[k]]:=by rw[List.take_succ_eq_append_getElem hkn]
   have hTL:(ts.take k).length=k:=by simp;omega
   generalize ts[k]=t at *;obtain⟨t1,t2⟩:=t;simp only at x0 x1;have hTy:=Abh (ts.take k);rw[hTL]at hTy;have HD:Hid (l++Aaa (ts.take (k+1))=l++Aaa (ts.take k)++Aav (t1,t2)):=by unfold Hid;rw[hd];simp[Aaa]
   have hLL:(l++Aaa (ts.take k)).length+2≤100000:=by rw[List.length_append,hTy];omega
   generalize l++Aaa (ts.take k)=L at *;have hW1:=hWr.alloc (O7 t1 t2);have hG1:=hG.alloc (by omega) (O7 t1 t2);clear hcell e1 e2 e3 hd hbg hTL hTy;subst hg;go_wp2_with fail
   refine(Im n B L t1 t2 _ hLL hW1).mono ?_;rintro e w2 ⟨rfl,hW2,hg2⟩;have hG2:=hG1.trans hg2;rw[← Aa HD]at hW2;clear x0 x1 hg2 hG1 hG hW1 hWr;go_wp2
   go_roundw
   case rel=>exact⟨k+1,by omega,by go_num,hW2,hG2⟩
   case measure=>simp[intOf];omega
  ·have e:ts.take k=ts:=List.take_of_length_le (by omega);rw[e]at hWr;go_wp2
   go_end0
   exact⟨rfl,hWr,hG⟩
theorem Dt (l:List Rd.Hnd) (k:Nat) (hk:k<l.length) (j:Nat) (hj:j<4):(A5 l)[k*4+j]?=[Value.int .i64 l[k].frm,.int .i64 l[k].til,.int .i64 l[k].target,.int .i64 l[k].cl][j]?∧k*4+j<(A5 l).length:=by
 refine⟨Ec (fun x:Rd.Hnd=>[Value.int .i64 x.frm,.int .i64 x.til,.int .i64 x.target,.int .i64 x.cl]) 4 (fun _=>rfl) l k hk j hj,?_⟩;unfold A5;rw[Dw (fun x:Rd.Hnd=>[Value.int .i64 x.frm,.int .i64 x.til,.int .i64 x.target,.int .i64 x.cl]) 4 (fun _=>rfl) l];omega
theorem Aer (l:List Rd.Hnd):(l.flatMap Abu).length=4*l.length:=by
 induction l with
 | nil=>rfl
 | cons x r ih=>simp[Abu]at ih ⊢;omega
theorem Ho (n B b:Nat) (l:List UInt8) (hs:List Rd.Hnd) (a:Option Addr) (m c:Nat) (w:World) (hl:l.length+(Abj hs).length≤100000) (hW:WrAt w n B l) (hT:HndsAt w b (.slice a m c) hs) :
  Calls Tryz.prog 115 #[.pointer (some ⟨B,0,none⟩),.slice a m c] w fun e w'=>e=.returned (.tuple #[])∧WrAt w' n B (l++Abj hs)∧WG n w w':=by
 obtain⟨xa,xc,hsh⟩:=Ag hT;simp only[Value.slice.injEq]at hsh;obtain⟨rfl,hn1,rfl⟩:=hsh;subst hn1;unfold Abj at hl ⊢;rw[List.length_cons,Aer]at hl;generalize hB0:Zy (hs.length:Int)=b0;have HB0:=Ac hB0;clear hB0;go_enter Tryz.func115,Tryz.ntmps115
 (go_wp2_with fail);refine(Ap n B l (hs.length:Int) _ (by omega) hW).mono ?_;rintro e w1 ⟨rfl,hW1,hg1⟩
 rw[Aa HB0]at hW1;go_wp2
 go_loopw [12] (fun v wr=>∃ k:Nat,k≤hs.length∧v=.int .i64 (k:Int)∧WrAt wr n B (l++[b0]++(hs.take k).flatMap Abu)∧WG n w wr)
  (fun v _=>hs.length-(intOf v).toNat)
 case atStart=>exact⟨0,by omega,rfl,by simpa using hW1,hg1⟩
 case round =>
  clear hW1 hg1;obtain⟨k,hk,rfl,hWr,hG⟩:=hrel;have hlt:=hWr.lt;by_cases hkn:k<hs.length
  ·obtain⟨g,hg,hglt,hbg,hcell⟩:=Ao (Aw hT hG (by decide) (by decide)) (by omega);have x0:=(hcell _ (Dt hs k hkn 0 (by omega)).2).trans (Dt hs k hkn 0 (by omega)).1;have x1:=(hcell _ (Dt hs k hkn 1 (by omega)).2).trans (Dt hs k hkn 1 (by omega)).1;have x2:=(hcell _ (Dt hs k hkn 2 (by omega)).2).trans (Dt hs k hkn 2 (by omega)).1;have x3:=(hcell _ (Dt hs k hkn 3 (by omega)).2).trans (Dt hs k hkn 3 (by omega)).1;have hd:hs.take (k+1)=hs.take k++[hs[k]]:=by rw[List.take_succ_eq_append_getElem hkn]
   have hTy:=Aer (hs.take k);have hTL:(hs.take k).length=k:=by simp;omega
   generalize hs[k]=t at *;obtain⟨t1,t2,t3,t4⟩:=t;simp at x0 x1 x2 x3;rw[hTL]at hTy;have HD:Hid (l++[b0]++(hs.take (k+1)).flatMap Abu=l++[b0]++(hs.take k).flatMap Abu++[Zy t1]++[Zy t2]++[Zy t3]++[Zy t4]):=by unfold Hid;rw[hd];simp[Abu]
   have hLL:(l++[b0]++(hs.take k).flatMap Abu).length+4≤100000:=by rw[List.length_append,List.length_append,hTy];simp;omega
   generalize l++[b0]++(hs.take k).flatMap Abu=L at *;have hW1:=hWr.alloc (O13 t1 t2 t3 t4);have C1:=Ad wr (O13 t1 t2 t3 t4);have hG1:=hG.alloc (by omega) (O13 t1 t2 t3 t4);clear hcell hd hbg hTL hTy;subst hg
   (go_wp2_with fail);refine(Ap n B L t1 _ (by omega) hW1).mono ?_;rintro e w2 ⟨rfl,hW2,hg2⟩
   have C2:=hg2.kp _ _ _ C1 (by decide) (by decide);have y1:=Ab C2 1;have l2:=lt_of_block C2;simp at y1
   (go_wp2_with fail);refine(Ap n B (L++[Zy t1]) t2 _ (by simp;omega) hW2).mono ?_;rintro e w3 ⟨rfl,hW3,hg3⟩
   have C3:=hg3.kp _ _ _ C2 (by decide) (by decide);have y2:=Ab C3 2;have l3:=lt_of_block C3;simp at y2
   (go_wp2_with fail);refine(Ap n B (L++[Zy t1]++[Zy t2]) t3 _ (by simp;omega) hW3).mono ?_;rintro e w4 ⟨rfl,hW4,hg4⟩
   have C4:=hg4.kp _ _ _ C3 (by decide) (by decide);have y3:=Ab C4 3;have l4:=lt_of_block C4;simp at y3
   (go_wp2_with fail);refine(Ap n B (L++[Zy t1]++[Zy t2]++[Zy t3]) t4 _ (by simp;omega) hW4).mono ?_;rintro e w5 ⟨rfl,hW5,hg5⟩
   have hG2:=(((hG1.trans hg2).trans hg3).trans hg4).trans hg5;rw[← Aa HD]at hW5;clear x0 x1 x2 x3 y1 y2 y3 l2 l3 l4 C1 C2 C3 C4 hg2 hg3 hg4 hg5 hG1 hG hW1 hW2 hW3 hW4 hWr;go_wp2
   go_roundw
   case rel=>exact⟨k+1,by omega,by go_num,hW5,hG2⟩
   case measure=>simp[intOf];omega
  ·have e:hs.take k=hs:=List.take_of_length_le (by omega);rw[e]at hWr;go_wp2
   go_end0
   exact⟨rfl,by simpa using hWr,hG⟩
theorem Ca (l:List (Rd.Mp × Value × Value)) (k:Nat) (hk:k<l.length) (j:Nat) (hj:j<3):(Ci l)[k*3+j]?=[Value.int .i64 l[k].1.place,l[k].2.1,l[k].2.2][j]?∧k*3+j<(Ci l).length:=by
 refine⟨Ec (fun x:Rd.Mp × Value × Value=>[Value.int .i64 x.1.place,x.2.1,x.2.2]) 3 (fun _=>rfl) l k hk j hj,?_⟩;unfold Ci;rw[Dw (fun x:Rd.Mp × Value × Value=>[Value.int .i64 x.1.place,x.2.1,x.2.2]) 3 (fun _=>rfl) l];omega
theorem Afa (l:List (Rd.Mp × Value × Value)) (k:Nat) (hk:k<l.length) :
  (((l.take k).map Prod.fst).flatMap Aao).length+(Aao l[k].1).length≤((l.map Prod.fst).flatMap Aao).length:=by
 have h:(l.map Prod.fst).flatMap Aao=((l.take k).map Prod.fst).flatMap Aao++(Aao l[k].1++((l.drop (k+1)).map Prod.fst).flatMap Aao):=by
  rw[← List.flatMap_cons,← List.map_cons,← List.drop_eq_getElem_cons hk,← List.flatMap_append,← List.map_append,List.take_append_drop]
 rw[h,List.length_append,List.length_append];omega
theorem Uz (n B b:Nat) (l:List UInt8) (ms:List (Rd.Mp × Value × Value)) (a:Option Addr) (m c:Nat) (w:World) (hl:l.length+(Ab5 (ms.map Prod.fst)).length≤100000) (hW:WrAt w n B l) (hT:MpsIn w b (.slice a m c) ms) :
  Calls Tryz.prog 116 #[.pointer (some ⟨B,0,none⟩),.slice a m c] w fun e w'=>e=.returned (.tuple #[])∧WrAt w' n B (l++Ab5 (ms.map Prod.fst))∧WG n w w':=by
 obtain⟨xa,xc,hsh⟩:=Ag hT.1;simp only[Value.slice.injEq]at hsh;obtain⟨rfl,hn1,rfl⟩:=hsh;subst hn1;unfold Ab5 at hl ⊢;rw[List.length_cons]at hl;rw[List.length_map];have hml:ms.length≤100000:=by
  have:∀ r:List (Rd.Mp × Value × Value),r.length≤((r.map Prod.fst).flatMap Aao).length:=by
   intro r
   induction r with
   | nil=>simp
   | cons x r ih=>simp only[List.map_cons,List.flatMap_cons,List.length_append,List.length_cons,Aao];omega
  have:=this ms;omega
 generalize hB0:Zy (ms.length:Int)=b0;have HB0:=Ac hB0;clear hB0;go_enter Tryz.func116,Tryz.ntmps116
 (go_wp2_with fail);refine(Ap n B l (ms.length:Int) _ (by omega) hW).mono ?_;rintro e w1 ⟨rfl,hW1,hg1⟩
 rw[Aa HB0]at hW1;go_wp2
 go_loopw [12] (fun v wr=>∃ k:Nat,k≤ms.length∧v=.int .i64 (k:Int)∧WrAt wr n B (l++[b0]++((ms.take k).map Prod.fst).flatMap Aao)∧WG n w wr)
  (fun v _=>ms.length-(intOf v).toNat)
 case atStart=>exact⟨0,by omega,rfl,by simpa using hW1,hg1⟩
 case round =>
  clear hW1 hg1;obtain⟨k,hk,rfl,hWr,hG⟩:=hrel;have hlt:=hWr.lt;by_cases hkn:k<ms.length
  ·obtain⟨g,hg,hglt,hbg,hcell⟩:=Ao (Aw hT.1 hG (by decide) (by decide)) (by omega);have x0:=(hcell _ (Ca ms k hkn 0 (by omega)).2).trans (Ca ms k hkn 0 (by omega)).1;have x1:=(hcell _ (Ca ms k hkn 1 (by omega)).2).trans (Ca ms k hkn 1 (by omega)).1;have x2:=(hcell _ (Ca ms k hkn 2 (by omega)).2).trans (Ca ms k hkn 2 (by omega)).1;have hd:ms.take (k+1)=ms.take k++[ms[k]]:=by rw[List.take_succ_eq_append_getElem hkn]
   have hbd:=Afa ms k hkn;have hty:=hT.2 _ (List.getElem_mem hkn);generalize ms[k]=t at *;obtain⟨⟨t1,t2,t3⟩,u2,u3⟩:=t;simp at x0 x1 x2;simp only at hty;obtain⟨ty2,ty3⟩:=hty;obtain⟨a2,c2,rfl⟩:=Ag ty2;obtain⟨a3,c3,rfl⟩:=Ag ty3;simp only[Aao,List.length_cons,List.length_append,Abh]at hbd;have HD:Hid (l++[b0]++((ms.take (k+1)).map Prod.fst).flatMap Aao=l++[b0]++((ms.take k).map Prod.fst).flatMap Aao++[Zy t1]++Aaa t2++[Zy (t3.length:Int)]++Aaa t3):=by unfold Hid;rw[hd];simp[Aao]
   have hLL:(l++[b0]++((ms.take k).map Prod.fst).flatMap Aao).length+1+2*t2.length+1+2*t3.length≤100000:=by rw[List.length_append,List.length_append];simp only[List.length_cons,List.length_nil];omega
   generalize l++[b0]++((ms.take k).map Prod.fst).flatMap Aao=L at *;have hW1:=hWr.alloc (O11 t1 a2 t2.length c2 a3 t3.length c3);have C1:=Ad wr (O11 t1 a2 t2.length c2 a3 t3.length c3);have hG1:=hG.alloc (by omega) (O11 t1 a2 t2.length c2 a3 t3.length c3);clear hcell hd hbg hbd;subst hg
   (go_wp2_with fail);refine(Ap n B L t1 _ (by omega) hW1).mono ?_;rintro e w2 ⟨rfl,hW2,hg2⟩
   have C2:=hg2.kp _ _ _ C1 (by decide) (by decide);have G2:=hG1.trans hg2;have y1:=Ab C2 1;have l2:=lt_of_block C2;simp at y1;go_wp2_with fail
   refine(Dk n B b (L++[Zy t1]) t2 a2 t2.length c2 _ (by simp;omega) hW2 (Aw ty2 G2 (by decide) (by decide))).mono ?_;rintro e w3 ⟨rfl,hW3,hg3⟩;have C3:=hg3.kp _ _ _ C2 (by decide) (by decide);have G3:=G2.trans hg3;have y2:=Ab C3 2;have l3:=lt_of_block C3;simp at y2
   (go_wp2_with fail);refine(Ap n B (L++[Zy t1]++Aaa t2) (t3.length:Int) _ (by simp only[List.length_append,Abh,List.length_cons,List.length_nil];omega) hW3).mono ?_;rintro e w4 ⟨rfl,hW4,hg4⟩
   have C4:=hg4.kp _ _ _ C3 (by decide) (by decide);have G4:=G3.trans hg4;have z2:=Ab C4 2;have l4:=lt_of_block C4;simp at z2;go_wp2_with fail
   refine(Dk n B b (L++[Zy t1]++Aaa t2++[Zy (t3.length:Int)]) t3 a3 t3.length c3 _ (by simp only[List.length_append,Abh,List.length_cons,List.length_nil];omega) hW4 (Aw ty3 G4 (by decide) (by decide))).mono ?_;rintro e w5 ⟨rfl,hW5,hg5⟩;have G5:=G4.trans hg5;rw[← Aa HD]at hW5;clear x0 x1 x2 y1 y2 z2 l2 l3 l4 C1 C2 C3 C4 hg2 hg3 hg4 hg5 hG1 hG hW1 hW2 hW3 hW4 hWr G2 G3 G4;go_wp2
   go_roundw
   case rel=>exact⟨k+1,by omega,by go_num,hW5,G5⟩
   case measure=>simp[intOf];omega
  ·have e:ms.take k=ms:=List.take_of_length_le (by omega);rw[e]at hWr;go_wp2
   go_end0
   exact⟨rfl,by simpa using hWr,hG⟩
theorem MpsIn.wg {n b:Nat}{v:Value}{l:List (Rd.Mp × Value × Value)}{w w':World} (h:MpsIn w b v l) (hg:WG n w w'):MpsIn w' b v l :=
 ⟨Aw h.1 hg (by decide) (by decide),fun p hp=>⟨Aw (h.2 p hp).1 hg (by decide) (by decide),Aw (h.2 p hp).2 hg (by decide) (by decide)⟩⟩
theorem Aej (x:Rd.Mth):(Aad x).length=8+2*x.params.length+x.code.length+(Abj x.handlers).length+(Ab5 x.maps).length:=by
 simp[Aad,Abi,Aav,Abh];omega
theorem Pp (n B bb:Nat) (l:List UInt8) (m:PM) (x:Rd.Mth) (w:World) (hl:l.length+(Aad x).length≤100000) (hW:WrAt w n B l) (hm:m.is x w bb) :
  Calls Tryz.prog 73 #[.pointer (some ⟨B,0,none⟩),m.val] w fun e w'=>e=.returned (.tuple #[])∧WrAt w' n B (l++Aad x)∧WG n w w':=by
 rw[Aej]at hl;generalize hR:l++Aad x=R;unfold Aad Abi at hR;obtain⟨e1,e2,e3,e4,e5,e6,e7,hps,e8,hco,e9,hhs,e10,lm,hlm,hmp⟩:=hm;have hres:x.result=(m.r1,m.r2):=by rw[e3,e4]
 rw[hres,← e1,← e2,← e5,← e6]at hR;rw[← hlm]at hR hl;generalize x.params=ps at *;generalize x.code=co at *;generalize x.handlers=hs at *;clear hres e1 e2 e3 e4 e5 e6 e10 hlm x;obtain⟨cl,nm,pa,pl,pc,r1,r2,lo,st,ca,cn,cc,ha,hl',hc,ma,ml,mc⟩:=m;simp only at hR hps hco hhs hmp e7 e8 e9;simp only[PM.val];subst e7 e8 e9;have HR:=Ac hR;clear hR;have hlt:=hW.lt;have tl:=Abh ps;have tyl:(Aav (r1,r2)).length=2:=rfl;have C0:=Ad w (O12 cl nm pa ps.length pc r1 r2 lo st ca co.length cc ha hs.length hc ma ml mc);have G0:=(WG.refl n w).alloc (by omega) (O12 cl nm pa ps.length pc r1 r2 lo st ca co.length cc ha hs.length hc ma ml mc);have hW0:=hW.alloc (O12 cl nm pa ps.length pc r1 r2 lo st ca co.length cc ha hs.length hc ma ml mc);go_enter Tryz.func73,Tryz.ntmps73
 (go_wp2_with fail);refine(Ap n B l cl _ (by omega) hW0).mono ?_;rintro e w1 ⟨rfl,hW1,hg1⟩
 have C1:=hg1.kp _ _ _ C0 (by decide) (by decide);have G1:=G0.trans hg1;have d1:=lt_of_block C1;have y1:=Ab C1 1;simp at y1;clear hW0 hW
 (go_wp2_with fail);refine(Ap n B (l++[Zy cl]) nm _ (by (simp;omega)) hW1).mono ?_;rintro e w2 ⟨rfl,hW2,hg2⟩
 have C2:=hg2.kp _ _ _ C1 (by decide) (by decide);have G2:=G1.trans hg2;have d2:=lt_of_block C2;have y2:=Ab C2 2;simp at y2;clear y1 hW1 d1
 (go_wp2_with fail);refine(Ap n B (l++[Zy cl]++[Zy nm]) (ps.length:Int) _ (by (simp;omega)) hW2).mono ?_;rintro e w3 ⟨rfl,hW3,hg3⟩
 have C3:=hg3.kp _ _ _ C2 (by decide) (by decide);have G3:=G2.trans hg3;have d3:=lt_of_block C3;have y3:=Ab C3 2;simp at y3;clear y2 hW2 d2;go_wp2_with fail
 refine(Dk n B bb (l++[Zy cl]++[Zy nm]++[Zy (ps.length:Int)]) ps pa ps.length pc _ (by (simp;omega)) hW3 (Aw hps G3 (by decide) (by decide))).mono ?_;rintro e w4 ⟨rfl,hW4,hg4⟩;have C4:=hg4.kp _ _ _ C3 (by decide) (by decide);have G4:=G3.trans hg4;have d4:=lt_of_block C4;have y4:=Ab C4 3;have y5:=Ab C4 4;simp at y4 y5;clear y3 hW3 d3 hps;go_wp2_with fail
 refine(Im n B (l++[Zy cl]++[Zy nm]++[Zy (ps.length:Int)]++Aaa ps) r1 r2 _ (by (simp;omega)) hW4).mono ?_;rintro e w5 ⟨rfl,hW5,hg5⟩;have C5:=hg5.kp _ _ _ C4 (by decide) (by decide);have G5:=G4.trans hg5;have d5:=lt_of_block C5;have y6:=Ab C5 5;simp at y6;clear y4 y5 hW4 d4
 (go_wp2_with fail);refine(Ap n B (l++[Zy cl]++[Zy nm]++[Zy (ps.length:Int)]++Aaa ps++Aav (r1,r2)) lo _ (by (simp;omega)) hW5).mono ?_;rintro e w6 ⟨rfl,hW6,hg6⟩
 have C6:=hg6.kp _ _ _ C5 (by decide) (by decide);have G6:=G5.trans hg6;have d6:=lt_of_block C6;have y7:=Ab C6 6;simp at y7;clear y6 hW5 d5
 (go_wp2_with fail);refine(Ap n B (l++[Zy cl]++[Zy nm]++[Zy (ps.length:Int)]++Aaa ps++Aav (r1,r2)++[Zy lo]) st _ (by (simp;omega)) hW6).mono ?_;rintro e w7 ⟨rfl,hW7,hg7⟩
 have C7:=hg7.kp _ _ _ C6 (by decide) (by decide);have G7:=G6.trans hg7;have d7:=lt_of_block C7;have y8:=Ab C7 7;simp at y8;clear y7 hW6 d6;have hco7:=Aw hco G7 (by decide) (by decide);have hcl:co.length≤100000:=by omega
 (go_wp2_with fail);refine(Ap n B (l++[Zy cl]++[Zy nm]++[Zy (ps.length:Int)]++Aaa ps++Aav (r1,r2)++[Zy lo]++[Zy st]) (co.length:Int) _ (by (simp;omega)) hW7).mono ?_;rintro e w8 ⟨rfl,hW8,hg8⟩
 have C8:=hg8.kp _ _ _ C7 (by decide) (by decide);have G8:=G7.trans hg8;have d8:=lt_of_block C8;have y9:=Ab C8 7;simp at y9;clear y8 hW7 d7 G0 G1 G2 G3 G4 G5 G6 G7 C0 C1 C2 C3 C4 C5 C6 C7 hg1 hg2 hg3 hg4 hg5 hg6 hg7 hg8 hco7;have hLL:(l++[Zy cl]++[Zy nm]++[Zy (ps.length:Int)]++Aaa ps++Aav (r1,r2)++[Zy lo]++[Zy st]++[Zy (co.length:Int)]).length+co.length+(Abj hs).length+(Ab5 (lm.map Prod.fst)).length≤100000:=by (simp;omega)
 have HR2:Hid ((l++[Zy cl]++[Zy nm]++[Zy (ps.length:Int)]++Aaa ps++Aav (r1,r2)++[Zy lo]++[Zy st]++[Zy (co.length:Int)])++co.map Zy++Abj hs++Ab5 (lm.map Prod.fst)=R):=by
  unfold Hid;rw[← Aa HR]
  simp
 clear HR;generalize (l++[Zy cl]++[Zy nm]++[Zy (ps.length:Int)]++Aaa ps++Aav (r1,r2)++[Zy lo]++[Zy st]++[Zy (co.length:Int)])=L at *;go_wp2
 go_loopw [43] (fun v wr=>∃ k:Nat,k≤co.length∧v=.int .i64 (k:Int)∧WrAt wr n B (L++(co.take k).map Zy)∧WG n w wr∧wr.heap[w.heap.size]?=some (O12 cl nm pa ps.length pc r1 r2 lo st ca co.length cc ha hs.length hc ma ml mc))
  (fun v _=>co.length-(intOf v).toNat)
 case atStart=>exact⟨0,by omega,rfl,by simpa using hW8,G8,C8⟩
 case round =>
  clear hW8 G8 C8 d8;obtain⟨k,hk,rfl,hWr,hG,hC⟩:=hrel;have dC:=lt_of_block hC;by_cases hkn:k<co.length
  ·obtain⟨g,hg,hglt,hbg,hcell⟩:=Ao (Aw hco hG (by decide) (by decide)) (by omega);have x0:=hcell k (by simpa using hkn);rw[List.getElem?_map,List.getElem?_eq_getElem hkn]at x0;have hd:co.take (k+1)=co.take k++[co[k]]:=by rw[List.take_succ_eq_append_getElem hkn]
   have hTL:(co.take k).length=k:=by simp;omega
   generalize co[k]=t at *;simp at x0;have HD:Hid (L++(co.take (k+1)).map Zy=L++(co.take k).map Zy++[Zy t]):=by unfold Hid;rw[hd];simp
   have hLk:(L++(co.take k).map Zy).length≤100000:=by rw[List.length_append,List.length_map,hTL];omega
   generalize L++(co.take k).map Zy=LK at *;clear hcell hd hbg hTL y9;subst hg;go_wp2_with fail
   refine(Ap n B LK t _ hLk hWr).mono ?_;rintro e w9 ⟨rfl,hW9,hg9⟩;have hG9:=hG.trans hg9;have hC9:=hg9.kp _ _ _ hC (by decide) (by decide);rw[← Aa HD]at hW9;clear x0 hg9 hG hWr hC;go_wp2
   go_roundw
   case rel=>exact⟨k+1,by omega,by go_num,hW9,hG9,hC9⟩
   case measure=>simp[intOf];omega
  ·have e:co.take k=co:=List.take_of_length_le (by omega);rw[e]at hWr;have z7:=Ab hC 8;simp at z7;go_wp2_with fail
   refine(Ho n B bb (L++co.map Zy) hs ha hs.length hc _ (by (simp;omega)) hWr (Aw hhs hG (by decide) (by decide))).mono ?_;rintro e w9 ⟨rfl,hW9,hg9⟩;have G9:=hG.trans hg9;have C9:=hg9.kp _ _ _ hC (by decide) (by decide);have z8:=Ab C9 9;have d9:=lt_of_block C9;simp at z8;go_wp2_with fail
   refine(Uz n B bb (L++co.map Zy++Abj hs) lm ma ml mc _ (by (simp;omega)) hW9 (hmp.wg G9)).mono ?_;rintro e w10 ⟨rfl,hW10,hg10⟩;go_wp2
   go_end0
   exact⟨rfl,by rw[← Aa HR2];exact hW10,G9.trans hg10⟩
theorem Adu {α:Type} (f:α→List UInt8) (l:List α) (k:Nat) (hk:k<l.length):((l.take k).flatMap f).length+(f l[k]).length≤(l.flatMap f).length:=by
 have h:l.flatMap f=(l.take k).flatMap f++(f l[k]++(l.drop (k+1)).flatMap f):=by
  rw[← List.flatMap_cons,← List.drop_eq_getElem_cons hk,← List.flatMap_append,List.take_append_drop]
 rw[h,List.length_append,List.length_append];omega
theorem ClssIn.wg {n b:Nat}{v:Value}{l:List (Rd.Cls × Value)}{w w':World} (h:ClssIn w b v l) (hg:WG n w w'):ClssIn w' b v l :=
 ⟨Aw h.1 hg (by decide) (by decide),fun p hp=>Aw (h.2 p hp) hg (by decide) (by decide)⟩
theorem MthsIn.wg {n b:Nat}{v:Value}{l:List (Rd.Mth × MthV)}{w w':World} (h:MthsIn w b v l) (hg:WG n w w'):MthsIn w' b v l :=
 ⟨Aw h.1 hg (by decide) (by decide),fun p hp=>by
  obtain⟨a,c,d,q,hq,f⟩:=h.2 p hp;exact⟨Aw a hg (by decide) (by decide),Aw c hg (by decide) (by decide),Aw d hg (by decide) (by decide),q,hq,f.wg hg⟩⟩
theorem Tx (fa1 fa2:Option Addr) (fc1 fc2 bm:Nat) (lcs:List (Rd.Cls × Value)) (lms:List (Rd.Mth × MthV)) (w:World) (hl:(Aau ⟨lcs.map Prod.fst,lms.map Prod.fst⟩).length≤100000)
  (hc6:lcs.length≤1000) (hm6:lms.length≤1000) (hcs:ClssIn w bm (.slice fa1 lcs.length fc1) lcs) (hms:MthsIn w bm (.slice fa2 lms.length fc2) lms) :
  Calls Tryz.prog 47 #[.agg #[.slice fa1 lcs.length fc1,.slice fa2 lms.length fc2]] w fun e w'=>e=.returned (.string ⟨(Aau ⟨lcs.map Prod.fst,lms.map Prod.fst⟩).toArray⟩)∧Below w.heap.size w w':=by
 generalize hR:Aau ⟨lcs.map Prod.fst,lms.map Prod.fst⟩=R at *;unfold Aau Abv at hR;simp only[List.length_map,List.flatMap_map]at hR;generalize hC:lcs.flatMap (fun p=>Aat p.1)=CB at *;generalize hM:lms.flatMap (fun p=>Aad p.1)=MB at *;have HR:=Ac hR;have hRl:R.length=4+CB.length+MB.length:=by rw[← hR];simp;omega
 have HC:=Ac hC;have HM:=Ac hM;clear hR hC hM;have C0:=Aj w (O1 fa1 lcs.length fc1 fa2 lms.length fc2) (O15 none 0 0);have D0:=Ai w (O1 fa1 lcs.length fc1 fa2 lms.length fc2) (O15 none 0 0);have G0:=((WG.refl w.heap.size w).alloc (Nat.le_refl _) (O1 fa1 lcs.length fc1 fa2 lms.length fc2)).alloc (by simp) (O15 none 0 0);have hW0:WrAt ((w.alloc (O1 fa1 lcs.length fc1 fa2 lms.length fc2)).alloc (O15 none 0 0)) w.heap.size (w.heap.size+1) []:=⟨_,D0,by omega,World.ownsRow_nil _ _ _ _⟩;clear D0;go_enter Tryz.func47,Tryz.ntmps47
 (go_wp2_with fail);refine(Ap w.heap.size (w.heap.size+1) [] 83 _ (by simp) hW0).mono ?_;rintro e w1 ⟨rfl,hW1,hg1⟩
 have C1:=hg1.kp _ _ _ C0 (by decide) (by decide);have G1:=G0.trans hg1;clear hW0 hg1
 (go_wp2_with fail);refine(Ap w.heap.size (w.heap.size+1) ([]++[Zy 83]) 77 _ (by simp) hW1).mono ?_;rintro e w2 ⟨rfl,hW2,hg2⟩
 have C2:=hg2.kp _ _ _ C1 (by decide) (by decide);have G2:=G1.trans hg2;have x0:=Ab C2 0;have d2:=lt_of_block C2;simp at x0;clear hW1 hg2
 (go_wp2_with fail);refine(Ap w.heap.size (w.heap.size+1) ([]++[Zy 83]++[Zy 77]) (lcs.length:Int) _ (by simp) hW2).mono ?_;rintro e w3 ⟨rfl,hW3,hg3⟩
 have C3:=hg3.kp _ _ _ C2 (by decide) (by decide);have G3:=G2.trans hg3;have x1:=Ab C3 0;have d3:=lt_of_block C3;simp at x1;clear hW2 hg3 x0 C0 C1 C2 G0 G1 G2 d2;have HL:Hid ([]++[Zy 83]++[Zy 77]++[Zy (lcs.length:Int)]=[83,77,Zy (lcs.length:Int)]):=by unfold Hid;simp[Zy]
 generalize hL0:[]++[Zy 83]++[Zy 77]++[Zy (lcs.length:Int)]=L0 at *;have hLl:L0.length=3:=by rw[← hL0];simp
 clear hL0;go_wp2
 go_loopw [17] (fun v wr=>∃ k:Nat,k≤lcs.length∧v=.int .i64 (k:Int)∧WrAt wr w.heap.size (w.heap.size+1) (L0++(lcs.take k).flatMap (fun p=>Aat p.1))∧WG w.heap.size w wr∧wr.heap[w.heap.size]?=some (O1 fa1 lcs.length fc1 fa2 lms.length fc2))
  (fun v _=>lcs.length-(intOf v).toNat)
 case atStart=>exact⟨0,by omega,rfl,by simpa using hW3,G3,C3⟩
 case round =>
  clear hW3 G3 C3 d3 x1;obtain⟨k,hk,rfl,hWr,hG,hC⟩:=hrel;have dC:=lt_of_block hC;have hlt:=hWr.lt;by_cases hkn:k<lcs.length
  ·have hcw:=hcs.wg hG;obtain⟨g,hg,hglt,hbg,hcell⟩:=Ao hcw.1 (by omega);obtain⟨e1,e2,e3⟩:=Ex lcs k hkn;have x0:=hcell (k*2) (by omega);have x1:=hcell (k*2+1) (by omega);rw[e1]at x0;rw[e2]at x1;have hty:=hcw.2 _ (List.getElem_mem hkn);have hd:lcs.take (k+1)=lcs.take k++[lcs[k]]:=by rw[List.take_succ_eq_append_getElem hkn]
   have hbd:=Adu (fun p:Rd.Cls × Value=>Aat p.1) lcs k hkn;rw[Aa HC]at hbd;generalize lcs[k]=t at *;obtain⟨⟨t1,t2⟩,u⟩:=t;simp only at x0 x1 hty;obtain⟨ua,uc,rfl⟩:=Ag hty;simp only[Aat,List.length_cons,Abh]at hbd;have HD:Hid (L0++(lcs.take (k+1)).flatMap (fun p=>Aat p.1)=L0++(lcs.take k).flatMap (fun p=>Aat p.1)++[Zy t1]++[Zy (t2.length:Int)]++Aaa t2):=by unfold Hid;rw[hd];simp[Aat]
   have hLk:(L0++(lcs.take k).flatMap (fun p=>Aat p.1)).length+2+2*t2.length≤100000:=by rw[List.length_append];simp only[Aat];omega
   generalize L0++(lcs.take k).flatMap (fun p=>Aat p.1)=LK at *;have hW1:=hWr.alloc (O5 t1 ua t2.length uc);have K1:=Ad wr (O5 t1 ua t2.length uc);have G1:=hG.alloc (by omega) (O5 t1 ua t2.length uc);have G1':=(WG.refl w.heap.size wr).alloc (by omega) (O5 t1 ua t2.length uc);have C1:=Ae hC (O5 t1 ua t2.length uc);clear hcell e1 e2 e3 hd hbd hbg;subst hg
   (go_wp2_with fail);refine(Ap w.heap.size (w.heap.size+1) LK t1 _ (by omega) hW1).mono ?_;rintro e w2 ⟨rfl,hW2,hg2⟩
   have K2:=hg2.kp _ _ _ K1 (by decide) (by decide);have C2:=hg2.kp _ _ _ C1 (by decide) (by decide);have y1:=Ab K2 1;have l2:=lt_of_block K2;simp at y1
   (go_wp2_with fail);refine(Ap w.heap.size (w.heap.size+1) (LK++[Zy t1]) (t2.length:Int) _ (by (simp;omega)) hW2).mono ?_;rintro e w3 ⟨rfl,hW3,hg3⟩
   have K3:=hg3.kp _ _ _ K2 (by decide) (by decide);have C3:=hg3.kp _ _ _ C2 (by decide) (by decide);have z1:=Ab K3 1;have l3:=lt_of_block K3;simp at z1;have G3':=(G1'.trans hg2).trans hg3;go_wp2_with fail
   refine(Dk w.heap.size (w.heap.size+1) bm (LK++[Zy t1]++[Zy (t2.length:Int)]) t2 ua t2.length uc _ (by (simp;omega)) hW3 (Aw hty G3' (by decide) (by decide))).mono ?_;rintro e w4 ⟨rfl,hW4,hg4⟩;have C4:=hg4.kp _ _ _ C3 (by decide) (by decide);have G4:=((G1.trans hg2).trans hg3).trans hg4;rw[← Aa HD]at hW4;clear x0 x1 y1 z1 l2 l3 K1 K2 K3 C1 C2 C3 hg2 hg3 hg4 G1 G1' G3' hG hW1 hW2 hW3 hWr hC hcw hty;go_wp2
   go_roundw
   case rel=>exact⟨k+1,by omega,by go_num,hW4,G4,C4⟩
   case measure=>simp[intOf];omega
  ·have e:lcs.take k=lcs:=List.take_of_length_le (by omega);rw[e,Aa HC]at hWr;have z1:=Ab hC 1;simp at z1
   (go_wp2_with fail);refine(Ap w.heap.size (w.heap.size+1) (L0++CB) (lms.length:Int) _ (by (simp;omega)) hWr).mono ?_;rintro e w4 ⟨rfl,hW4,hg4⟩
   have C4:=hg4.kp _ _ _ hC (by decide) (by decide);have G4:=hG.trans hg4;have y1:=Ab C4 1;have d4:=lt_of_block C4;simp at y1;clear hWr hG hC hg4 z1 dC hlt;have HRR:Hid (L0++CB++[Zy (lms.length:Int)]++MB=R):=by unfold Hid;rw[← Aa HR,Aa HL]
   have hL1:(L0++CB++[Zy (lms.length:Int)]).length=4+CB.length:=by simp[hLl];omega
   generalize L0++CB++[Zy (lms.length:Int)]=L1 at *;go_wp2
   go_loopw [39] (fun v wr=>∃ k:Nat,k≤lms.length∧v=.int .i64 (k:Int)∧WrAt wr w.heap.size (w.heap.size+1) (L1++(lms.take k).flatMap (fun p=>Aad p.1))∧WG w.heap.size w wr)
    (fun v _=>lms.length-(intOf v).toNat)
   case atStart=>exact⟨0,by omega,rfl,by simpa using hW4,G4⟩
   case round =>
    clear hW4 G4 C4 d4 y1 e hk hkn;obtain⟨q,hk,rfl,hWr,hG⟩:=hrel;have hlt:=hWr.lt;by_cases hkn:q<lms.length
    ·obtain⟨o,g,hg,hglt,hrow,his⟩:=(hms.wg hG).mth hkn;replace hrow:=Fi hrow;have hd:lms.take (q+1)=lms.take q++[lms[q]]:=by rw[List.take_succ_eq_append_getElem hkn]
     have hbd:=Adu (fun p:Rd.Mth × MthV=>Aad p.1) lms q hkn;rw[Aa HM]at hbd;generalize lms[q]=t at *;obtain⟨y,u⟩:=t;simp only at hbd his;have HD:Hid (L1++(lms.take (q+1)).flatMap (fun p=>Aad p.1)=L1++(lms.take q).flatMap (fun p=>Aad p.1)++Aad y):=by unfold Hid;rw[hd];simp
     have hLk:(L1++(lms.take q).flatMap (fun p=>Aad p.1)).length+(Aad y).length≤100000:=by rw[List.length_append];omega
     generalize L1++(lms.take q).flatMap (fun p=>Aad p.1)=LK at *;have HC:=fun w' hW' (h:Below _ _ w')=>Pp w.heap.size (w.heap.size+1) bm LK o y w' hLk hW' (his.below h);clear hd hbd his;obtain⟨ocl,onm,opa,opl,opc,or1,or2,olo,ost,oca,ocn,occ,oha,ohl,ohc,oma,oml,omc⟩:=o;simp only[PM.val]at hrow HC;obtain⟨y0,y1,y2,y3,y4,y5,y6,y7,y8,y9⟩:=hrow;have hW1:=hWr.alloc (O12 ocl onm opa opl opc or1 or2 olo ost oca ocn occ oha ohl ohc oma oml omc);have G1:=hG.alloc (by omega) (O12 ocl onm opa opl opc or1 or2 olo ost oca ocn occ oha ohl ohc oma oml omc);have hc:=HC _ hW1 (QN _);have HC2:=Ac hc;clear hc HC;subst hg;go_wp2_with fail
     refine(Aa HC2).mono ?_;rintro e w2 ⟨rfl,hW2,hg2⟩;have G2:=G1.trans hg2;rw[← Aa HD]at hW2;clear y0 y1 y2 y3 y4 y5 y6 y7 y8 y9 hg2 G1 hG hW1 hWr;go_wp2
     go_roundw
     case rel=>exact⟨q+1,by omega,by go_num,hW2,G2⟩
     case measure=>simp[intOf];omega
    ·have e:lms.take q=lms:=List.take_of_length_le (by omega);rw[e,Aa HM,Aa HRR]at hWr;obtain⟨v,hb,_,hown⟩:=hWr;obtain⟨va,vc,rfl⟩:=Ag hown;obtain⟨g,hg,hglt,hbg,hcell⟩:=Ao hown (by omega);subst hg;have hk:(convert 120 9 (.slice (some ⟨g,0,none⟩) R.length vc)).run Tryz.prog wr=.ok (.string ⟨R.toArray⟩) wr:=by
      refine run_convert_bytes_back (P:=Tryz.prog) _ _ _ 5 _ vc R Tryz.underlying120 Tryz.underlying5 Tryz.underlying9 ?_;intro j hj;have hadd:(⟨g,0,none⟩:Addr).add j=⟨g,j,none⟩:=by unfold Addr.add;split<;>simp_all
      rw[hadd,hcell j (by simpa[Adt] using hj)];simp[Adt,hj]
     have x0:=Ab hb 0;have dB:=lt_of_block hb;simp at x0;clear hcell hbg hown;clear hRl;go_wp2;go_ret;exact⟨rfl,hG.bel⟩
def MthV.bare (u:MthV):MthV:=⟨u.params,u.code,u.handlers,.slice none 0 0⟩
def Da (l:List (Rd.Mth × MthV)):List (Rd.Mth × MthV):=l.map fun p=>(p.1.bare,p.2.bare)
theorem Ln (l:List (Rd.Mth × MthV)):(Da l).length=l.length:=by simp[Da]
theorem MthIn.bare {w:World}{b:Nat}{m:Rd.Mth}{u:MthV} (h:MthIn w b m u):MthIn w b m.bare u.bare:=by
 obtain⟨a,c,d,_⟩:=h;exact⟨a,c,d,[],rfl,World.ownsRow_nil _ _ _ _,by simp⟩
theorem Kd (fa1 fa2:Option Addr) (n1 fc1 fc2 bm:Nat) (lms:List (Rd.Mth × MthV)) (w:World) (hbm:bm≤w.heap.size) (hm6:lms.length≤1000) (hms:MthsIn w bm (.slice fa2 lms.length fc2) lms) :
  Calls Tryz.prog 66 #[.agg #[.slice fa1 n1 fc1,.slice fa2 lms.length fc2]] w fun e w' =>
   ∃ a c,e=.returned (.agg #[.slice fa1 n1 fc1,.slice a lms.length c])∧MthsIn w' bm (.slice a lms.length c) (Da lms)∧Below w.heap.size w w':=by
 obtain⟨j0,hj,hy0,hy1,hy2⟩:=info_parts Tryz.infoMethod;have HMS:∀ w',Below w.heap.size w w'→MthsIn w' bm (.slice fa2 lms.length fc2) lms:=fun w' h=>hms.kp (Kp.of_below (e:=none) h) (by decide) (by decide) (by decide) (by decide) (by decide);have HM':=Ac HMS;have hB0:=Ah w (O1 fa1 n1 fc1 fa2 lms.length fc2) (O1 none 0 0 none 0 0);have C0:=Aj w (O1 fa1 n1 fc1 fa2 lms.length fc2) (O1 none 0 0 none 0 0);have D0:=Ai w (O1 fa1 n1 fc1 fa2 lms.length fc2) (O1 none 0 0 none 0 0);clear HMS hms;go_enter Tryz.func66,Tryz.ntmps66;go_wp2
 go_loopw [3,9] (fun v i wr=>∃ k:Nat,k≤lms.length∧i=.int .i64 (k:Int)∧wr.ownsRow w.heap.size 133 10 v k (Bg (Da (lms.take k)))∧Below w.heap.size w wr ∧
   wr.heap[w.heap.size]?=some (O1 fa1 n1 fc1 fa2 lms.length fc2)∧wr.heap[w.heap.size+1]?=some (O1 none 0 0 none 0 0))
  (fun _ i _=>lms.length-(intOf i).toNat)
 case atStart=>exact⟨0,by omega,rfl,World.ownsRow_nil _ _ _ _,hB0,C0,D0⟩
 case round =>
  clear hB0 C0 D0;obtain⟨k,hk,rfl,hown,hB,hC,hD⟩:=hrel;have hBs:=hB.size;have dC:=lt_of_block hC;have dD:=lt_of_block hD;obtain⟨va,vc,rfl⟩:=Ag hown;by_cases hkn:k<lms.length
  ·have hmr:=Aa HM' _ hB;obtain⟨g,hg,hglt,hbg,hcell⟩:=Ao hmr.1 (by omega);have y0:=(hcell _ (Bv lms k hkn 0 (by omega)).2).trans (Bv lms k hkn 0 (by omega)).1;have y1:=(hcell _ (Bv lms k hkn 1 (by omega)).2).trans (Bv lms k hkn 1 (by omega)).1;have y2:=(hcell _ (Bv lms k hkn 2 (by omega)).2).trans (Bv lms k hkn 2 (by omega)).1;have y3:=(hcell _ (Bv lms k hkn 3 (by omega)).2).trans (Bv lms k hkn 3 (by omega)).1;have y4:=(hcell _ (Bv lms k hkn 4 (by omega)).2).trans (Bv lms k hkn 4 (by omega)).1;have y5:=(hcell _ (Bv lms k hkn 5 (by omega)).2).trans (Bv lms k hkn 5 (by omega)).1;have y6:=(hcell _ (Bv lms k hkn 6 (by omega)).2).trans (Bv lms k hkn 6 (by omega)).1;have y7:=(hcell _ (Bv lms k hkn 7 (by omega)).2).trans (Bv lms k hkn 7 (by omega)).1;have y8:=(hcell _ (Bv lms k hkn 8 (by omega)).2).trans (Bv lms k hkn 8 (by omega)).1;have y9:=(hcell _ (Bv lms k hkn 9 (by omega)).2).trans (Bv lms k hkn 9 (by omega)).1;obtain⟨hp,hc',hh,q,hq,hm⟩:=hmr.2 _ (List.getElem_mem hkn);have hd:Da (lms.take (k+1))=Da (lms.take k)++[(lms[k].1.bare,lms[k].2.bare)]:=by rw[List.take_succ_eq_append_getElem hkn];unfold Da;rw[List.map_append];rfl
   generalize lms[k]=t at *;obtain⟨⟨cl,nm,ps,⟨r1,r2⟩,lo,st,co,hs,mp⟩,⟨up,uc,uh,um⟩⟩:=t;simp only at hp hc' hh hm hq;obtain⟨pa,pc,rfl⟩:=Ag hp;obtain⟨ca,cc,rfl⟩:=Ag hc';obtain⟨ha,hc,rfl⟩:=Ag hh;obtain⟨ma,mc,rfl⟩:=Ag hm.1;simp only[Br]at y0 y1 y2 y3 y4 y5 y6 y7 y8 y9;simp at y0 y1 y2 y3 y4 y5 y6 y7 y8 y9;have HD:=Ac hd;clear hd hcell hp hc' hh hm hq hbg hmr;subst hg;have hown1:=hown.alloc (O12 cl nm pa ps.length pc r1 r2 lo st ca co.length cc ha hs.length hc none 0 0);have hB1:=hB.alloc hBs (O12 cl nm pa ps.length pc r1 r2 lo st ca co.length cc ha hs.length hc none 0 0);have C1:=Ae hC (O12 cl nm pa ps.length pc r1 r2 lo st ca co.length cc ha hs.length hc none 0 0);have D1:=Ae hD (O12 cl nm pa ps.length pc r1 r2 lo st ca co.length cc ha hs.length hc none 0 0);clear hown;go_wp2_with (at_builtin;refine wpList_append_own _ rfl _ _ 82 rfl w.heap.size 133 j0 _ 10 144 Tryz.underlying82 hj hy0 hy1 hy2 rfl (by decide) _ _ _ rfl (hown1.alloc _) ⟨wr.heap.size+1,0,none⟩ 1 1 [.int .i64 cl,.int .i64 nm,.slice pa ps.length pc,.int .i64 r1,.int .i64 r2,.int .i64 lo,.int .i64 st,.slice ca co.length cc,.slice ha hs.length hc,.slice none 0 0] rfl rfl ?d1 ?d2 ?d3 ?d4 ?d5 ?_)
   case d2=>exact⟨rfl,rfl,rfl,rfl,rfl,rfl,rfl,rfl,rfl,rfl⟩
   case d3=>unfold maxLen;omega
   case d4=>omega
   case d5=>omega
   intro v' w2 hown2 hgrow _;have hB2:=(hB1.alloc (by simp;omega) _).grown hgrow (by simp;omega) (fun z hz=>(hown1.lt z hz).1);have hK:=(Kp.alloc (e:=some 133) (b:=0) _ _).trans (Kp.of_grown hgrow (hown1.alloc _));have C2:=hK _ _ _ (Nat.zero_le _) C1 (by decide);have D2:=hK _ _ _ (Nat.zero_le _) D1 (by decide);have hown3:w2.ownsRow w.heap.size 133 10 v' (k+1) (Bg (Da (lms.take (k+1)))):=by rw[Aa HD,Fy];exact hown2
   clear hown1 hown2 hgrow hB1 hK C1 D1 y0 y1 y2 y3 y4 y5 y6 y7 y8 y9 hB hC hD;go_wp2
   go_roundw
   case rel=>exact⟨k+1,by omega,by go_num,hown3,hB2,C2,D2⟩
   case measure=>simp[intOf];omega
  ·have e:lms.take k=lms:=List.take_of_length_le (by omega);have e2:k=lms.length:=by omega
   subst e2;rw[e]at hown;have x0:=Ab hC 0;obtain⟨z0,z1⟩:=cl2 hD;obtain⟨q0,q1⟩:=fr2 hD;simp at x0 z0 z1;have hmr:=Aa HM' _ hB;have hres:MthsIn wr bm (.slice va lms.length vc) (Da lms):=by
    refine⟨by rw[Ln];exact Az hown hbm,?_⟩;intro p hp;unfold Da at hp;rw[List.mem_map]at hp;obtain⟨p',hp',rfl⟩:=hp;exact(hmr.2 p' hp').bare
   clear hmr;have k1:=(Kp.set (b:=bm) (i:=0) hD (.slice fa1 n1 fc1)).trans (Kp.set (i:=1) (Al (i:=0) hD (.slice fa1 n1 fc1)) (.slice va lms.length vc));have hres2:=hres.kp k1 (by decide) (by decide) (by decide) (by decide) (by decide);go_wp2_with fail
   refine bodyPost_ret (v:=.agg #[.slice fa1 n1 fc1,.slice va lms.length vc]) (by simp[results,Tryz.results66,go_sem,z0,z1]) rfl ?_;exact⟨va,vc,rfl,hres2,(hB.setCell (by simp) _).setCell (by simp) _⟩
end Go.Proofs.YtpcgnjolfahacaaGreat
