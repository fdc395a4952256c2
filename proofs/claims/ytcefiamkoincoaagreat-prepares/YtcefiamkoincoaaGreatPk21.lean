/- a part of the proof -/
import Derived.Test.YtcefiamkoincoaaGreatPk20
set_option maxRecDepth 100000
set_option maxHeartbeats 40000000
set_option linter.unusedVariables false
set_option linter.unusedSimpArgs false
namespace Go.Proofs.YtcefiamkoincoaaGreat
open Go.RowKit
structure Ac7 where
 fr:Zt
 st:Bool
 ri:Bool
 wa:Bool
def Ab4:Ac7:=⟨⟨[],[]⟩,false,false,false⟩
structure Zv where
 sp:List Ac7
 hop:Bool
def Zv.at (s:Zv) (q:Nat):Ac7:=s.sp.getD q Ab4
def Zv.put (s:Zv) (q:Nat) (y:Zt):Zv:=⟨s.sp.set q ⟨y,true,true,(s.at q).wa⟩,s.hop⟩
def Zv.stop (s:Zv):Zv:=⟨s.sp,true⟩
def Zv.want (s:Zv) (q:Nat):Zv:=⟨s.sp.set q ⟨(s.at q).fr,(s.at q).st,(s.at q).ri,true⟩,s.hop⟩
def Zv.calm (s:Zv) (q:Nat):Zv:=⟨s.sp.set q ⟨(s.at q).fr,(s.at q).st,false,(s.at q).wa⟩,s.hop⟩
def Aa1 (T:List Int) (x y:Zt):Zt:=⟨List.zipWith (Tr.joinT T) x.locals y.locals,List.zipWith (Tr.joinT T) x.stack y.stack⟩
def Aaf (T:List Int) (hi:Int) (x:Zt) (q:Int) (s:Zv):Zv :=
 if q<0∨(s.sp.length:Int)≤q∨hi<(x.stack.length:Int) then s.stop
 else if (s.at q.toNat).st=false then s.put q.toNat x
 else if Acb T x (s.at q.toNat).fr=true then s
 else if x.locals.length=(s.at q.toNat).fr.locals.length∧x.stack.length=(s.at q.toNat).fr.stack.length then s.put q.toNat (Aa1 T x (s.at q.toNat).fr)
 else s.stop
def Aec (q:Int) (s:Zv):Zv:=if 0≤q∧q<(s.sp.length:Int) then s.want q.toNat else s
def Abl (T:List Int) (hi:Int) (x:Zt) (q:Int) (s:Zv):Zv:=Aec q (Aaf T hi x q s)
def Aae (T:List Int) (hi:Int) (p:Int) (lo:List (Int × Int)):List Rd.Hnd→Zv→Zv
 | [],s=>s
 | h::r,s=>Aae T hi p lo r (if Aao h p=true then Abl T hi ⟨lo,[(3,h.cl)]⟩ h.target s else s)
def Acz (T:List Int) (hi:Int) (hs:List Rd.Hnd) (bh:Cd.Ins→Zt→Option Zt) (i:Cd.Ins) (x:Zt) (s:Zv):Zv :=
 match bh i x with
 | none=>(Aae T hi i.place x.locals hs s).stop
 | some y =>
  let s1:=Aae T hi i.place x.locals hs s
  let s2:=if Aad i.op=true then Abl T hi y i.n s1 else s1
  if Abv i.op=true then Aaf T hi y (i.place+(Cd.wd i.op:Int)) s2 else s2
def Zz (lk:Cd.Ins→Zt→Zv→Zv):List Cd.Ins→Bool→Zv→Zv × Bool
 | [],b,s=>(s,b)
 | i::r,b,s=>if (s.sp.length:Int)≤i.place∨(s.at i.place.toNat).ri=false then Zz lk r b s
  else Zz lk r true (lk i (s.at i.place.toNat).fr (s.calm i.place.toNat))
def Acc (lk:Cd.Ins→Zt→Zv→Zv) (L:List Cd.Ins):Nat→Zv→Zv
 | 0,s=>s
 | n+1,s=>if (Zz lk L false s).2=true∧(Zz lk L false s).1.hop=false then Acc lk L n (Zz lk L false s).1 else (Zz lk L false s).1
def Aav:Nat→List Ac7→List Rd.Mp
 | _,[]=>[]
 | k,p::r=>if p.wa=true then ⟨(k:Int),p.fr.locals,p.fr.stack⟩::Aav (k+1) r else Aav (k+1) r
def Ad2 (T:List Int) (t:Int × Int):Nat:=if t.1=0 then 0 else if t.1=3 then 1+t.2.toNat else if t.1=2 then T.length+1 else 1
def Acl (T:List Int) (l:List (Int × Int)):Nat:=(l.map (Ad2 T)).sum
def Adi (T:List Int) (x:Zt):Nat:=Acl T x.locals+Acl T x.stack
theorem Qd {T:List Int} (h:Tr.Ok T) {a b:Int × Int} (ha:Tr.Arg T a.1 a.2) (hb:Tr.Arg T b.1 b.2):Ad2 T (Tr.joinT T a b)≤Ad2 T b∧(Tr.fitsB T a.1 a.2 b.1 b.2=false→Ad2 T (Tr.joinT T a b)<Ad2 T b):=by
 obtain⟨k,n⟩:=a;obtain⟨k',n'⟩:=b;simp only at ha hb;obtain⟨j1,j2,j3,j4⟩:=Tr.join_spec h ha hb;simp only;by_cases hf:Tr.fitsB T k n k' n'=true
 ·have e:Tr.joinT T (k,n) (k',n')=(k',n'):=by unfold Tr.joinT;rw[if_pos hf]
  rw[e,hf];exact⟨Nat.le_refl _,fun h=>by simp at h⟩
 ·have hne:Tr.joinT T (k,n) (k',n')≠(k',n'):=fun e=>hf (by rw[e]at j2;exact j2);generalize Tr.joinT T (k,n) (k',n')=J at *;obtain⟨a,b⟩:=J;simp only at j1 j2 j3;have:Ad2 T (a,b)<Ad2 T (k',n'):=by
   unfold Ad2;simp only;rcases(Tr.fits_iff ..).1 j3 with ⟨rfl,rfl⟩ | e | ⟨rfl,rfl⟩ | ⟨rfl,rfl,e⟩
   ·exact absurd rfl hne
   ·subst e;have hk':k' ≠ 0:=by
     rintro rfl;exact hf ((Tr.fits_iff ..).2 (.inr (.inl rfl)))
    rw[if_pos rfl,if_neg hk']
    split
    ·omega
    ·split<;>omega
   ·unfold Tr.Arg at j1;rw[if_neg (by decide),if_pos rfl,if_neg (by decide),if_neg (by decide),if_pos rfl];omega
   ·unfold Tr.Arg at j1 hb;have:=Tr.below_lt h (a:=n') (b:=b) (by omega) (by omega) e;rw[if_neg (by decide),if_pos rfl,if_neg (by decide),if_pos rfl];omega
  exact⟨Nat.le_of_lt this,fun _=>this⟩
theorem J3 {T:List Int} (h:Tr.Ok T):∀ (a b:List (Int × Int)),(∀ t∈a,Tr.Arg T t.1 t.2)→(∀ t∈b,Tr.Arg T t.1 t.2)→a.length=b.length →
  Acl T (List.zipWith (Tr.joinT T) a b)≤Acl T b∧(Aaj T a b=false→Acl T (List.zipWith (Tr.joinT T) a b)<Acl T b)
 | [],[],_,_,_=>⟨Nat.le_refl _,fun h=>by simp[Aaj]at h⟩
 | [],y::b,_,_,hl=>by simp at hl
 | x::a,[],_,_,hl=>by simp at hl
 | x::a,y::b,ha,hb,hl=>by
  have h1:=Qd h (ha x (by simp)) (hb y (by simp));have h2:=J3 h a b (fun t ht=>ha t (by simp[ht])) (fun t ht=>hb t (by simp[ht])) (by simpa using hl);unfold Acl at h2 ⊢;simp only[List.zipWith_cons_cons,List.map_cons,List.sum_cons];refine⟨by omega,fun hf=>?_⟩;unfold Aaj at hf;by_cases hx:Tr.fitsB T x.1 x.2 y.1 y.2=true
  ·have:Aaj T a b=false:=by simpa[hx] using hf
   have:=h2.2 this;omega
  ·have:=h1.2 (by simpa using hx);omega
theorem Yp {T:List Int} (h:Tr.Ok T) {x y:Zt} (hx:Aay T x) (hy:Aay T y) (hl:x.locals.length=y.locals.length) (hs:x.stack.length=y.stack.length) (hn:Acb T x y=false):Adi T (Aa1 T x y)<Adi T y:=by
 have h1:=J3 h x.locals y.locals hx.1 hy.1 hl;have h2:=J3 h x.stack y.stack hx.2 hy.2 hs;unfold Acb Add at hn;rw[if_pos hl,if_pos hs]at hn;unfold Adi Aa1;simp only;by_cases hf:Aaj T x.locals y.locals=true
 ·have:=h2.2 (by simpa[hf] using hn);omega
 ·have:=h1.2 (by simpa using hf);omega
theorem Ob {T:List Int}:∀ (l:List (Int × Int)),(∀ t∈l,Tr.Arg T t.1 t.2)→Acl T l≤(T.length+1)*l.length
 | [],_=>by simp[Acl]
 | x::l,h=>by
  have h1:=Ob l (fun t ht=>h t (by simp[ht]));have hx:=h x (by simp);have:Ad2 T x≤T.length+1:=by
   unfold Ad2;unfold Tr.Arg at hx
   split
   ·omega
   ·split
    ·omega
    ·split<;>omega
  unfold Acl at h1 ⊢;simp only[List.map_cons,List.sum_cons,List.length_cons,Nat.mul_succ];omega
def Acn (T:List Int) (lo:Nat) (hi:Int) (isN:Int→Prop) (s:Zv):Prop:=∀ p∈s.sp,(p.st=true→Ab6 T lo hi isN p.fr)∧(p.ri=true→p.st=true)
def Abn (T:List Int) (K:Nat) (p:Ac7):Nat:=if p.st=true then Adi T p.fr else K
def Ac4 (T:List Int) (K:Nat) (s:Zv):Nat:=(s.sp.map (Abn T K)).sum*(s.sp.length+1)+s.sp.countP (fun p=>p.ri)
theorem Hj {α:Type} (f:α→Nat) (d y:α):∀ (l:List α) (i:Nat),i<l.length→((l.set i y).map f).sum+f (l.getD i d)=(l.map f).sum+f y
 | [],_,h=>by simp at h
 | x::l,0,_=>by simp;omega
 | x::l,i+1,h=>by
  have:=Hj f d y l i (by simpa using h);simp at this ⊢;omega
theorem Gq {α:Type} (f:α→Bool) (d y:α):∀ (l:List α) (i:Nat),i<l.length→(l.set i y).countP f+(if f (l.getD i d)=true then 1 else 0)=l.countP f+(if f y=true then 1 else 0)
 | [],_,h=>by simp at h
 | x::l,0,_=>by
  simp only[List.set_cons_zero,List.countP_cons,List.getD_cons_zero];omega
 | x::l,i+1,h=>by
  have:=Gq f d y l i (by simpa using h);simp only[List.set_cons_succ,List.countP_cons,List.getD_cons_succ];omega
theorem Abx {s:Zv}{q:Nat} (h:q<s.sp.length):s.at q∈s.sp:=by
 unfold Zv.at;rw[List.getD_eq_getElem?_getD,List.getElem?_eq_getElem h];exact List.getElem_mem _
structure Abp (T:List Int) (lo:Nat) (hi:Int) (isN:Int→Prop) (K:Nat) (s s':Zv):Prop where
 ok:Acn T lo hi isN s'
 len:s'.sp.length=s.sp.length
 mu:Ac4 T K s'≤Ac4 T K s
theorem Abp.refl {T:List Int}{lo:Nat}{hi:Int}{isN:Int→Prop}{K:Nat}{s:Zv} (h:Acn T lo hi isN s):Abp T lo hi isN K s s:=⟨h,rfl,Nat.le_refl _⟩
theorem Abp.trans {T:List Int}{lo:Nat}{hi:Int}{isN:Int→Prop}{K:Nat}{a b c:Zv} (h:Abp T lo hi isN K a b) (g:Abp T lo hi isN K b c):Abp T lo hi isN K a c:=⟨g.ok,g.len.trans h.len,Nat.le_trans g.mu h.mu⟩
theorem Abp.stop {T:List Int}{lo:Nat}{hi:Int}{isN:Int→Prop}{K:Nat}{s:Zv} (h:Acn T lo hi isN s):Abp T lo hi isN K s s.stop:=⟨h,rfl,Nat.le_refl _⟩
theorem Abp.put {T:List Int}{lo:Nat}{hi:Int}{isN:Int→Prop}{K:Nat}{s:Zv} (h:Acn T lo hi isN s) {q:Nat} (hq:q<s.sp.length) {y:Zt} (hy:Ab6 T lo hi isN y) (hc:Adi T y<Abn T K (s.at q)):Abp T lo hi isN K s (s.put q y):=by
 refine⟨fun p hp=>?_,by simp[Zv.put],?_⟩
 ·rcases List.mem_or_eq_of_mem_set hp with hp|rfl
  ·exact h p hp
  ·exact⟨fun _=>hy,fun _=>rfl⟩
 ·have h1:=Hj (Abn T K) Ab4 ⟨y,true,true,(s.at q).wa⟩ s.sp q hq;have h2:=Gq (fun p:Ac7=>p.ri) Ab4 ⟨y,true,true,(s.at q).wa⟩ s.sp q hq;unfold Ac4 Zv.put;simp only[List.length_set];unfold Zv.at at hc h1 h2 ⊢;simp only[if_true]at h2;have e:Abn T K ⟨y,true,true,(s.sp.getD q Ab4).wa⟩=Adi T y:=by unfold Abn;rw[if_pos rfl]
  rw[e]at h1;have h3:((s.sp.set q ⟨y,true,true,(s.sp.getD q Ab4).wa⟩).map (Abn T K)).sum+1≤(s.sp.map (Abn T K)).sum:=by omega
  have h4:=Nat.mul_le_mul_right (s.sp.length+1) h3;rw[Nat.add_mul]at h4;omega
theorem Abp.want {T:List Int}{lo:Nat}{hi:Int}{isN:Int→Prop}{K:Nat}{s:Zv} (h:Acn T lo hi isN s) {q:Nat} (hq:q<s.sp.length):Abp T lo hi isN K s (s.want q):=by
 refine⟨fun p hp=>?_,by simp[Zv.want],?_⟩
 ·rcases List.mem_or_eq_of_mem_set hp with hp|rfl
  ·exact h p hp
  ·exact⟨(h _ (Abx hq)).1,(h _ (Abx hq)).2⟩
 ·have h1:=Hj (Abn T K) Ab4 ⟨(s.at q).fr,(s.at q).st,(s.at q).ri,true⟩ s.sp q hq;have h2:=Gq (fun p:Ac7=>p.ri) Ab4 ⟨(s.at q).fr,(s.at q).st,(s.at q).ri,true⟩ s.sp q hq;unfold Ac4 Zv.want;simp only[List.length_set];have e:Abn T K ⟨(s.at q).fr,(s.at q).st,(s.at q).ri,true⟩=Abn T K (s.at q):=rfl;unfold Zv.at at h1 h2 e ⊢;rw[e]at h1;simp only at h2;have h3:((s.sp.set q ⟨(s.sp.getD q Ab4).fr,(s.sp.getD q Ab4).st,(s.sp.getD q Ab4).ri,true⟩).map (Abn T K)).sum=(s.sp.map (Abn T K)).sum:=by omega
  rw[h3];omega
theorem Ad8 {T:List Int}{lo:Nat}{hi:Int}{isN:Int→Prop}{K:Nat}{s:Zv} (h:Acn T lo hi isN s) {q:Nat} (hq:q<s.sp.length) (hr:(s.at q).ri=true):Acn T lo hi isN (s.calm q)∧(s.calm q).sp.length=s.sp.length∧Ac4 T K (s.calm q)<Ac4 T K s:=by
 refine⟨fun p hp=>?_,by simp[Zv.calm],?_⟩
 ·rcases List.mem_or_eq_of_mem_set hp with hp|rfl
  ·exact h p hp
  ·exact⟨(h _ (Abx hq)).1,fun h=>by simp at h⟩
 ·have h1:=Hj (Abn T K) Ab4 ⟨(s.at q).fr,(s.at q).st,false,(s.at q).wa⟩ s.sp q hq;have h2:=Gq (fun p:Ac7=>p.ri) Ab4 ⟨(s.at q).fr,(s.at q).st,false,(s.at q).wa⟩ s.sp q hq;unfold Ac4 Zv.calm;simp only[List.length_set];have e:Abn T K ⟨(s.at q).fr,(s.at q).st,false,(s.at q).wa⟩=Abn T K (s.at q):=rfl;unfold Zv.at at h1 h2 e hr ⊢;rw[e]at h1;simp only[hr,if_true,Bool.false_eq_true,if_false]at h2;have h3:((s.sp.set q ⟨(s.sp.getD q Ab4).fr,(s.sp.getD q Ab4).st,false,(s.sp.getD q Ab4).wa⟩).map (Abn T K)).sum=(s.sp.map (Abn T K)).sum:=by omega
  rw[h3];omega
theorem Ab6.arg {T:List Int}{lo:Nat}{hi:Int}{isN:Int→Prop}{x:Zt} (h:Ab6 T lo hi isN x):Aay T x:=⟨fun t ht=>(h.tl t ht).1,fun t ht=>(h.ts t ht).1⟩
theorem X7 {T:List Int} (h:Tr.Ok T) {isN:Int→Prop}{a b:Int × Int} (ha:Aaa T isN a) (hb:Aaa T isN b):Aaa T isN (Tr.joinT T a b):=by
 have j:=(Tr.join_spec h (k:=a.1) (n:=a.2) (k':=b.1) (n':=b.2) ha.1 hb.1).1;refine⟨j,?_⟩;unfold Tr.joinT
 split
 ·exact hb.2
 ·split
  ·exact ha.2
  ·split
   ·intro h;simp at h
   ·split
    ·intro h;simp at h
    ·intro h;simp at h
theorem N5 {T:List Int} (h:Tr.Ok T) {isN:Int→Prop}:∀ (a b:List (Int × Int)),(∀ t∈a,Aaa T isN t)→(∀ t∈b,Aaa T isN t)→∀ t∈List.zipWith (Tr.joinT T) a b,Aaa T isN t
 | [],_,_,_,t,ht=>by simp at ht
 | _::_,[],_,_,t,ht=>by simp at ht
 | x::a,y::b,ha,hb,t,ht=>by
  simp only[List.zipWith_cons_cons,List.mem_cons]at ht;rcases ht with rfl | ht
  ·exact X7 h (ha x (by simp)) (hb y (by simp))
  ·exact N5 h a b (fun t ht=>ha t (by simp[ht])) (fun t ht=>hb t (by simp[ht])) t ht
theorem J5 {T:List Int} (h:Tr.Ok T) {lo:Nat}{hi:Int}{isN:Int→Prop}{x y:Zt} (hx:Ab6 T lo hi isN x) (hy:Ab6 T lo hi isN y):Ab6 T lo hi isN (Aa1 T x y):=by
 refine⟨?_,?_,N5 h _ _ hx.tl hy.tl,N5 h _ _ hx.ts hy.ts⟩
 ·have:=hx.lo;have:=hy.lo;simp[Aa1];omega
 ·have:=hx.hi;simp[Aa1];omega
theorem Xh {T:List Int}{lo:Nat}{hi:Int}{isN:Int→Prop}{x:Zt} (hx:Ab6 T lo hi isN x):Adi T x<(T.length+1)*(lo+hi.toNat)+1:=by
 have h1:=Ob x.locals hx.arg.1;have h2:=Ob x.stack hx.arg.2;have h3:=hx.lo;have h4:=hx.hi;have h5:=Nat.mul_le_mul_left (T.length+1) (show x.stack.length≤hi.toNat by omega);unfold Adi;rw[Nat.mul_add];rw[h3]at h1;omega
def Acv (T:List Int) (lo:Nat) (hi:Int):Nat:=(T.length+1)*(lo+hi.toNat)+1
theorem Mm {T:List Int} (h:Tr.Ok T) {lo:Nat}{hi:Int}{isN:Int→Prop}{s:Zv} (hs:Acn T lo hi isN s) {x:Zt} (hx:x.locals.length=lo) (ht:∀ t∈x.locals,Aaa T isN t) (hk:∀ t∈x.stack,Aaa T isN t) (q:Int):Abp T lo hi isN (Acv T lo hi) s (Aaf T hi x q s):=by
 unfold Aaf
 split
 ·exact .stop hs
 ·next hn =>
  have hx':Ab6 T lo hi isN x:=⟨hx,by omega,ht,hk⟩
  split
  ·next h1=>exact .put hs (by omega) hx' (by unfold Abn;rw[if_neg (by simp[h1])];exact Xh hx')
  ·next h1 =>
   split
   ·exact .refl hs
   ·next h2 =>
    split
    ·next h3 =>
     have hy:=(hs _ (Abx (s:=s) (q:=q.toNat) (by omega))).1 (by simpa using h1);exact .put hs (by omega) (J5 h hx' hy) (by unfold Abn;rw[if_pos (by simpa using h1)];exact Yp h hx'.arg hy.arg h3.1 h3.2 (by simpa using h2))
    ·exact .stop hs
theorem Xt {T:List Int}{lo:Nat}{hi:Int}{isN:Int→Prop}{K:Nat}{s:Zv} (hs:Acn T lo hi isN s) (q:Int):Abp T lo hi isN K s (Aec q s):=by
 unfold Aec
 split
 ·exact .want hs (by omega)
 ·exact .refl hs
theorem Qp {T:List Int} (h:Tr.Ok T) {lo:Nat}{hi:Int}{isN:Int→Prop}{s:Zv} (hs:Acn T lo hi isN s) {x:Zt} (hx:x.locals.length=lo) (ht:∀ t∈x.locals,Aaa T isN t) (hk:∀ t∈x.stack,Aaa T isN t) (q:Int):Abp T lo hi isN (Acv T lo hi) s (Abl T hi x q s):=by
 have h1:=Mm h hs hx ht hk q;exact h1.trans (Xt h1.ok q)
theorem Ja {T:List Int} (h:Tr.Ok T) {lo:Nat}{hi:Int}{isN:Int→Prop}{x:Zt} (hx:x.locals.length=lo) (ht:∀ t∈x.locals,Aaa T isN t) (p:Int):∀ (hs:List Rd.Hnd),(∀ y∈hs,Tr.Arg T 3 y.cl)→∀ {s:Zv},Acn T lo hi isN s→Abp T lo hi isN (Acv T lo hi) s (Aae T hi p x.locals hs s)
 | [],_,s,h0=>.refl h0
 | y::r,hy,s,h0=>by
  unfold Aae;have h1:Abp T lo hi isN (Acv T lo hi) s (if Aao y p=true then Abl T hi ⟨x.locals,[(3,y.cl)]⟩ y.target s else s):=by
   split
   ·exact Qp (x:=⟨x.locals,[(3,y.cl)]⟩) h h0 hx ht (by intro t ht;rw[List.mem_singleton.1 ht];exact⟨hy y (by simp),fun h=>by simp at h⟩) _
   ·exact .refl h0
  exact h1.trans (Ja h hx ht p r (fun z hz=>hy z (by simp[hz])) h1.ok)
theorem Yc {T:List Int} (h:Tr.Ok T) {lo:Nat}{hi:Int}{isN:Int→Prop}{x:Zt} (hx:Ab6 T lo hi isN x) {hs:List Rd.Hnd} (hy:∀ y∈hs,Tr.Arg T 3 y.cl) {bh:Cd.Ins→Zt→Option Zt}{i:Cd.Ins} (hb:∀ y,bh i x=some y→Ab6 T lo hi isN y) {s:Zv} (h0:Acn T lo hi isN s):Abp T lo hi isN (Acv T lo hi) s (Acz T hi hs bh i x s):=by
 have h1:=Ja h hx.lo hx.tl i.place hs hy h0;unfold Acz
 split
 ·exact h1.trans (.stop h1.ok)
 ·next y e =>
  have hy':=hb y e;have h2:Abp T lo hi isN (Acv T lo hi) s (if Aad i.op=true then Abl T hi y i.n (Aae T hi i.place x.locals hs s) else Aae T hi i.place x.locals hs s):=by
   split
   ·exact h1.trans (Qp h h1.ok hy'.lo hy'.tl hy'.ts _)
   ·exact h1
  simp only
  split
  ·exact h2.trans (Mm h h2.ok hy'.lo hy'.tl hy'.ts _)
  ·exact h2
theorem Hk {T:List Int}{lo:Nat}{hi:Int}{isN:Int→Prop}{K:Nat}{lk:Cd.Ins→Zt→Zv→Zv}:∀ (L:List Cd.Ins),(∀ i∈L,0≤i.place) →
  (∀ i∈L,∀ x s,Ab6 T lo hi isN x→Acn T lo hi isN s→Abp T lo hi isN K s (lk i x s)) →
  ∀ (b:Bool) {s:Zv},Acn T lo hi isN s→Abp T lo hi isN K s (Zz lk L b s).1∧((Zz lk L b s).2=true→b=false→Ac4 T K (Zz lk L b s).1<Ac4 T K s)
 | [],_,_,b,s,h0=>⟨.refl h0,fun h g=>by simp[Zz,g]at h⟩
 | i::r,hp,hk,b,s,h0=>by
  unfold Zz;have ih:=fun b {s:Zv} h0=>Hk (T:=T) (lo:=lo) (hi:=hi) (isN:=isN) (K:=K) (lk:=lk) r (fun z hz=>hp z (by simp[hz])) (fun z hz=>hk z (by simp[hz])) b (s:=s) h0
  split
  ·exact ih b h0
  ·next hn =>
   have hpi:=hp i (by simp);have hri:(s.at i.place.toNat).ri=true:=by
    cases h:(s.at i.place.toNat).ri with
    | true=>rfl
    | false=>exact absurd (.inr h) hn
   have hq:i.place.toNat<s.sp.length:=by
    have:¬ (s.sp.length:Int)≤i.place:=fun h=>hn (.inl h);omega
   obtain⟨c1,c2,c3⟩:=Ad8 (K:=K) h0 hq hri;have hx:=(h0 _ (Abx hq)).1 ((h0 _ (Abx hq)).2 hri);have h1:=hk i (by simp) _ _ hx c1;have h2:=(ih true h1.ok).1;have hmu:=Nat.le_trans h2.mu h1.mu;exact⟨⟨h2.ok,h2.len.trans (h1.len.trans c2),by omega⟩,fun _ _=>by omega⟩
theorem H6 {T:List Int}{lo:Nat}{hi:Int}{isN:Int→Prop}{K:Nat}{lk:Cd.Ins→Zt→Zv→Zv}{L:List Cd.Ins} (hp:∀ i∈L,0≤i.place)
  (hk:∀ i∈L,∀ x s,Ab6 T lo hi isN x→Acn T lo hi isN s→Abp T lo hi isN K s (lk i x s)):∀ (n m:Nat) {s:Zv},Acn T lo hi isN s→Ac4 T K s<n→Ac4 T K s<m→Acc lk L n s=Acc lk L m s
 | 0,_,s,_,h,_=>absurd h (by omega)
 | n+1,0,s,_,_,h=>absurd h (by omega)
 | n+1,m+1,s,h0,hn,hm=>by
  have h1:=Hk (K:=K) L hp hk false h0;unfold Acc;by_cases hc:(Zz lk L false s).2=true∧(Zz lk L false s).1.hop=false
  ·rw[if_pos hc,if_pos hc];have:=h1.2 hc.1 rfl;exact H6 hp hk n m h1.1.ok (by omega) (by omega)
  ·rw[if_neg hc,if_neg hc]
def Aeq (T:List Int) (K:Nat) (lk:Cd.Ins→Zt→Zv→Zv) (L:List Cd.Ins) (s:Zv):Zv:=Acc lk L (Ac4 T K s+1) s
theorem Tq {T:List Int}{lo:Nat}{hi:Int}{isN:Int→Prop}{K:Nat}{lk:Cd.Ins→Zt→Zv→Zv}{L:List Cd.Ins} (hp:∀ i∈L,0≤i.place)
  (hk:∀ i∈L,∀ x s,Ab6 T lo hi isN x→Acn T lo hi isN s→Abp T lo hi isN K s (lk i x s)) {s:Zv} (h0:Acn T lo hi isN s) :
  Aeq T K lk L s=if (Zz lk L false s).2=true∧(Zz lk L false s).1.hop=false then Aeq T K lk L (Zz lk L false s).1 else (Zz lk L false s).1:=by
 have h1:=Hk (K:=K) L hp hk false h0;unfold Aeq;rw[Acc];by_cases hc:(Zz lk L false s).2=true∧(Zz lk L false s).1.hop=false
 ·rw[if_pos hc,if_pos hc];have:=h1.2 hc.1 rfl;exact H6 hp hk _ _ h1.1.ok (by omega) (by omega)
 ·rw[if_neg hc,if_neg hc]
abbrev Ae5 (T:List Int) (s t:Int × Int):Prop:=Tr.fitsB T s.1 s.2 t.1 t.2=true
def Aam (T:List Int):List (Int × Int)→List (Int × Int)→Prop
 | [],[]=>True
 | s::a,t::b=>Ae5 T s t∧Aam T a b
 | _,_=>False
theorem Aam.nil {T:List Int}:Aam T [] []:=trivial
theorem Aam.cons {T:List Int}{s t:Int × Int}{a b:List (Int × Int)} (h:Ae5 T s t) (k:Aam T a b):Aam T (s::a) (t::b):=⟨h,k⟩
theorem Aam.el {T:List Int}{P:(a b:List (Int × Int))→Aam T a b→Prop} (nil:P [] [] .nil) (cons:∀{s t:Int × Int}{a b:List (Int × Int)} (h:Ae5 T s t) (k:Aam T a b),P a b k→P (s::a) (t::b) (.cons h k)):∀{a b:List (Int × Int)} (h:Aam T a b),P a b h
 | [],[],_=>nil
 | [],_::_,h=>False.elim h
 | _::_,[],h=>False.elim h
 | _::_,_::_,h=>cons h.1 h.2 (Aam.el nil cons h.2)
structure Aac (T:List Int) (x y:Zt):Prop where
 lo:Aam T x.locals y.locals
 st:Aam T x.stack y.stack
theorem Aam.len {T:List Int}{a b:List (Int × Int)} (h:Aam T a b):a.length=b.length:=by
 induction h using Aam.el with
 | nil=>rfl
 | cons _ _ ih=>simp[ih]
theorem Aam.refl (T:List Int) (a:List (Int × Int)):Aam T a a:=by
 induction a with
 | nil=>exact .nil
 | cons x r ih=>exact .cons (Tr.fits_refl _ _ _) ih
theorem Aam.trans {T:List Int} (hT:Tr.Ok T) {a b c:List (Int × Int)} (h:Aam T a b) (g:Aam T b c) (ha:∀ t∈a,Tr.Arg T t.1 t.2) (hb:∀ t∈b,Tr.Arg T t.1 t.2) (hc:∀ t∈c,Tr.Arg T t.1 t.2):Aam T a c:=by
 induction h using Aam.el generalizing c with
 | nil=>exact g
 | cons h1 h2 ih =>
  cases g using Aam.el with
  | cons g1 g2=>exact .cons (Tr.fits_trans hT (ha _ (by simp)) (hb _ (by simp)) (hc _ (by simp)) h1 g1) (ih g2 (fun t ht=>ha t (by simp[ht])) (fun t ht=>hb t (by simp[ht])) (fun t ht=>hc t (by simp[ht])))
theorem Aam.anti {T:List Int} (hT:Tr.Ok T) {a b:List (Int × Int)} (h:Aam T a b) (g:Aam T b a) (ha:∀ t∈a,Tr.Arg T t.1 t.2) (hb:∀ t∈b,Tr.Arg T t.1 t.2):a=b:=by
 induction h using Aam.el with
 | nil=>rfl
 | cons h1 h2 ih =>
  cases g using Aam.el with
  | cons g1 g2 =>
   have e:=Tr.fits_anti hT (ha _ (by simp)) (hb _ (by simp)) h1 g1;rw[ih g2 (fun t ht=>ha t (by simp[ht])) (fun t ht=>hb t (by simp[ht])),Prod.ext e.1 e.2]
theorem Aam.getD {T:List Int}{a b:List (Int × Int)} (h:Aam T a b) (i:Nat):Ae5 T (a.getD i (0,0)) (b.getD i (0,0)):=by
 induction h using Aam.el generalizing i with
 | nil=>exact Tr.fits_refl _ _ _
 | cons h1 _ ih =>
  cases i with
  | zero=>simpa using h1
  | succ i=>simpa using ih i
theorem Aam.set {T:List Int}{a b:List (Int × Int)} (h:Aam T a b) (i:Nat) {s t:Int × Int} (hs:Ae5 T s t):Aam T (a.set i s) (b.set i t):=by
 induction h using Aam.el generalizing i with
 | nil=>exact .nil
 | cons h1 h2 ih =>
  cases i with
  | zero=>exact .cons hs h2
  | succ i=>exact .cons h1 (ih i)
theorem Aam.take {T:List Int}{a b:List (Int × Int)} (h:Aam T a b) (i:Nat):Aam T (a.take i) (b.take i):=by
 induction h using Aam.el generalizing i with
 | nil=>simpa using Aam.nil
 | cons h1 h2 ih =>
  cases i with
  | zero=>exact .nil
  | succ i=>exact .cons h1 (ih i)
theorem Aam.drop {T:List Int}{a b:List (Int × Int)} (h:Aam T a b) (i:Nat):Aam T (a.drop i) (b.drop i):=by
 induction h using Aam.el generalizing i with
 | nil=>simpa using Aam.nil
 | cons h1 h2 ih =>
  cases i with
  | zero=>exact .cons h1 h2
  | succ i=>exact ih i
theorem Aam.append {T:List Int}{a b c d:List (Int × Int)} (h:Aam T a b) (g:Aam T c d):Aam T (a++c) (b++d):=by
 induction h using Aam.el with
 | nil=>exact g
 | cons h1 _ ih=>exact .cons h1 ih
theorem Nw {T:List Int}{s:Int × Int}{p:Int} (h:Ae5 T s (4,p)):s=(4,p):=by
 rcases(Tr.fits_iff ..).1 h with ⟨a,b⟩ | e|⟨e,_⟩|⟨e,_⟩
 ·exact Prod.ext a b
 ·exact absurd e (by simp)
 ·exact absurd e (by simp)
 ·exact absurd e (by simp)
theorem Xd {T:List Int}{t:Int × Int}{p:Int} (h:Ae5 T (4,p) t):t=(4,p)∨t.1=0:=by
 rcases(Tr.fits_iff ..).1 h with ⟨a,b⟩ | e|⟨_,e⟩|⟨_,e,_⟩
 ·exact .inl (Prod.ext a.symm b.symm)
 ·exact .inr e
 ·exact absurd e (by simp)
 ·exact absurd e (by simp)
theorem Aam.turned {T:List Int}{a b:List (Int × Int)} (h:Aam T a b) (p:Int) (u:Int × Int):Aam T (Zy (4,p) u a) (Zy (4,p) u b):=by
 induction h using Aam.el with
 | nil=>exact .nil
 | @cons s t a b h1 _ ih =>
  refine Aam.cons ?_ ih;show Ae5 T (if s=(4,p) then u else s) (if t=(4,p) then u else t)
  by_cases hs:s=(4,p)
  ·subst hs;rw[if_pos rfl];rcases Xd h1 with rfl | h0
   ·rw[if_pos rfl];exact Tr.fits_refl _ _ _
   ·rw[if_neg (by rintro rfl;simp at h0)];exact(Tr.fits_iff ..).2 (.inr (.inl h0))
  ·rw[if_neg hs];by_cases ht:t=(4,p)
   ·subst ht;exact absurd (Nw h1) hs
   ·rw[if_neg ht];exact h1
theorem Uu {T:List Int} (hT:Tr.Ok T) {a b:List (Int × Int)} (h:Aam T a b) (ha:∀ t∈a,Tr.Arg T t.1 t.2) (hb:∀ t∈b,Tr.Arg T t.1 t.2):∀ {c:List (Int × Int)},(∀ t∈c,Tr.Arg T t.1 t.2)→Aaj T b c=true→Aaj T a c=true:=by
 induction h using Aam.el with
 | nil=>exact fun _ h=>h
 | cons h1 _ ih =>
  intro c hc hf;cases c with
  | nil=>simp[Aaj]
  | cons u c =>
   simp only[Aaj,Bool.and_eq_true]at hf ⊢;exact⟨Tr.fits_trans hT (ha _ (by simp)) (hb _ (by simp)) (hc _ (by simp)) h1 hf.1,ih (fun t ht=>ha t (by simp[ht])) (fun t ht=>hb t (by simp[ht])) (fun t ht=>hc t (by simp[ht])) hf.2⟩
theorem Vq {T:List Int} (hT:Tr.Ok T) {a b c:List (Int × Int)} (h:Aam T a b) (ha:∀ t∈a,Tr.Arg T t.1 t.2) (hb:∀ t∈b,Tr.Arg T t.1 t.2) (hc:∀ t∈c,Tr.Arg T t.1 t.2) (hf:Abu T b c=true):Abu T a c=true:=by
 unfold Abu at hf ⊢;rw[h.len];by_cases hl:b.length<c.length
 ·rw[if_pos hl]at hf;cases hf
 ·rw[if_neg hl]at hf ⊢;rw[Fj hT _ _ (fun t ht=>hb t (List.mem_of_mem_drop ht)) hc]at hf;rw[Fj hT _ _ (fun t ht=>ha t (List.mem_of_mem_drop ht)) hc];exact Uu hT (h.drop _) (fun t ht=>ha t (List.mem_of_mem_drop ht)) (fun t ht=>hb t (List.mem_of_mem_drop ht)) hc hf
theorem Rz {T:List Int} (hT:Tr.Ok T) {tk lv want:List (Int × Int)}{arg:Int→Int}{p op n:Int}{x y z:Zt} (hx:Aay T x) (hy:Aay T y) (hk:∀ t∈tk,Tr.Arg T t.1 t.2) (hw:∀ t∈want,Tr.Arg T t.1 t.2) (h:Aac T x y)
  (hz:Ac2 T tk lv want arg p op n y=some z):∃ u,Ac2 T tk lv want arg p op n x=some u∧Aac T u z:=by
 have el:=h.lo.len;have es:=h.st.len;unfold Ac2 at hz ⊢;by_cases h2:op=2
 ·rw[if_pos h2]at hz ⊢;have hg:=h.lo.getD n.toNat;by_cases hk0:(y.locals.getD n.toNat (0,0)).1=0
  ·rw[if_pos hk0]at hz;cases hz
  ·rw[if_neg hk0]at hz;have hk1:(x.locals.getD n.toNat (0,0)).1≠0:=by
    intro e;rcases(Tr.fits_iff ..).1 hg with ⟨a,_⟩ | a | ⟨_,a⟩ | ⟨_,a,_⟩<;>omega
   rw[if_neg hk1];cases hz;exact⟨_,rfl,h.lo,h.st.append (.cons hg .nil)⟩
 ·rw[if_neg h2]at hz ⊢;by_cases h3:op=3
  ·rw[if_pos h3,es]at *;by_cases hl:y.stack.length<1
   ·rw[if_pos hl]at hz;cases hz
   ·rw[if_neg hl]at hz ⊢;cases hz;exact⟨_,rfl,h.lo.set _ (h.st.getD _),h.st.take _⟩
  ·rw[if_neg h3]at hz ⊢;by_cases h4:op=4
   ·rw[if_pos h4,es]at *;by_cases hl:y.stack.length<1
    ·rw[if_pos hl]at hz;cases hz
    ·rw[if_neg hl]at hz ⊢;cases hz;exact⟨_,rfl,h.lo,h.st.take _⟩
   ·rw[if_neg h4]at hz ⊢;by_cases h5:op=5
    ·rw[if_pos h5,es]at *;by_cases hl:y.stack.length<1
     ·rw[if_pos hl]at hz;cases hz
     ·rw[if_neg hl]at hz ⊢;cases hz;exact⟨_,rfl,h.lo,h.st.append (h.st.drop _)⟩
    ·rw[if_neg h5]at hz ⊢;by_cases h6:op=6
     ·rw[if_pos h6,es]at *;by_cases hl:y.stack.length<2
      ·rw[if_pos hl]at hz;cases hz
      ·rw[if_neg hl]at hz ⊢;cases hz;exact⟨_,rfl,h.lo,(h.st.take _).append (.cons (h.st.getD _) (.cons (h.st.getD _) .nil))⟩
     ·rw[if_neg h6]at hz ⊢;by_cases h15:op=15
      ·rw[if_pos h15]at hz ⊢;cases hz;exact⟨_,rfl,h.lo.turned _ _,(h.st.turned _ _).append (.cons (Tr.fits_refl _ _ _) .nil)⟩
      ·rw[if_neg h15]at hz ⊢;by_cases h16:op=16
       ·rw[if_pos h16]at hz ⊢;unfold Ado at hz ⊢;rw[es]at *;by_cases ht:Abu T y.stack want=false
        ·rw[if_pos ht]at hz;cases hz
        ·have ht':=Vq hT h.st hx.2 hy.2 hw (by simpa using ht);rw[if_neg ht]at hz;rw[if_neg (by simp[ht'])];by_cases hl:y.stack.length<want.length+1
         ·rw[if_pos hl]at hz;cases hz
         ·rw[if_neg hl]at hz ⊢;have hg:=h.st.getD (y.stack.length-want.length-1);have hg2:=h.st.take (y.stack.length-want.length-1);generalize y.stack.getD (y.stack.length-want.length-1) (0,0)=r at *;generalize x.stack.getD (y.stack.length-want.length-1) (0,0)=r' at *;by_cases h41:r.1≠4
          ·rw[if_pos h41]at hz;cases hz
          ·rw[if_neg h41]at hz;obtain⟨r1,r2⟩:=r;have:r1=4:=by simpa using h41
           subst this;have e:=Nw hg;subst e;rw[if_neg h41];by_cases ha:arg r2≠n
           ·rw[if_pos ha]at hz;cases hz
           ·rw[if_neg ha]at hz ⊢;cases hz;exact⟨_,rfl,h.lo.turned _ _,hg2.turned _ _⟩
       ·rw[if_neg h16]at hz ⊢;by_cases ht:Abu T y.stack tk=false
        ·rw[if_pos ht]at hz;cases hz
        ·have ht':=Vq hT h.st hx.2 hy.2 hk (by simpa using ht);rw[if_neg ht,es]at *;rw[if_neg (by simp[ht'])];cases hz;exact⟨_,rfl,h.lo,(h.st.take _).append (.refl _ _)⟩
structure Zx where
 T:List Int
 lo:Nat
 hi:Int
 isN:Int→Prop
 n:Nat
 ps:List Nat
 hs:List Rd.Hnd
 rl:Nat→Zt→Option Zt
 op:Nat→Int
 ar:Nat→Int
 x0:Zt
abbrev Zx.I (E:Zx) (x:Zt):Prop:=Ab6 E.T E.lo E.hi E.isN x
def Zx.nx (E:Zx) (p:Nat):Int:=(p:Int)+(Cd.wd (E.op p):Int)
structure Zx.Good (E:Zx):Prop where
 T:Tr.Ok E.T
 x0:E.I E.x0
 rl:∀ p∈E.ps,∀ x y,E.I x→E.rl p x=some y→E.I y
 mono:∀ p∈E.ps,∀ x y z,E.I x→E.I y→Aac E.T x y→E.rl p y=some z→∃ u,E.rl p x=some u∧Aac E.T u z
 tgt:∀ p∈E.ps,Aad (E.op p)=true→0≤E.ar p∧E.ar p<(E.n:Int)∧(E.ar p).toNat∈E.ps
 nxt:∀ p∈E.ps,E.nx p<(E.n:Int)→(E.nx p).toNat∈E.ps
 hnd:∀ h∈E.hs,0≤h.target∧h.target<(E.n:Int)∧h.target.toNat∈E.ps∧Tr.Arg E.T 3 h.cl
 zero:0∈E.ps
 lt:∀ p∈E.ps,p<E.n
def Aat (x:Zt) (h:Rd.Hnd):Zt:=⟨x.locals,[(3,h.cl)]⟩
def Abj (E:Zx) (p:Nat) (x:Zt) (q:Int) (y:Zt) (a:Bool):Prop:=(∃ h,h∈E.hs∧Aao h (p:Int)=true∧q=h.target∧y=Aat x h∧a=true)∨(E.rl p x=some y∧Aad (E.op p)=true∧q=E.ar p∧a=true)∨(E.rl p x=some y∧Abv (E.op p)=true∧q=E.nx p∧a=false)
theorem Abj.hnd {E:Zx}{p:Nat}{x:Zt} (h:Rd.Hnd) (k:h∈E.hs) (c:Aao h (p:Int)=true):Abj E p x h.target (Aat x h) true:=Or.inl ⟨h,k,c,rfl,rfl,rfl⟩
theorem Abj.jmp {E:Zx}{p:Nat}{x:Zt} (y:Zt) (k:E.rl p x=some y) (c:Aad (E.op p)=true):Abj E p x (E.ar p) y true:=Or.inr (Or.inl ⟨k,c,rfl,rfl⟩)
theorem Abj.nxt {E:Zx}{p:Nat}{x:Zt} (y:Zt) (k:E.rl p x=some y) (c:Abv (E.op p)=true):Abj E p x (E.nx p) y false:=Or.inr (Or.inr ⟨k,c,rfl,rfl⟩)
theorem Abj.el {E:Zx}{p:Nat}{x:Zt}{P:(q:Int)→(y:Zt)→(a:Bool)→Abj E p x q y a→Prop} (hnd:∀ (h:Rd.Hnd) (k:h∈E.hs) (c:Aao h (p:Int)=true),P _ _ _ (.hnd h k c)) (jmp:∀ (y:Zt) (k:E.rl p x=some y) (c:Aad (E.op p)=true),P _ _ _ (.jmp y k c)) (nxt:∀ (y:Zt) (k:E.rl p x=some y) (c:Abv (E.op p)=true),P _ _ _ (.nxt y k c)){q:Int}{y:Zt}{a:Bool} (h:Abj E p x q y a):P q y a h:=by
 rcases h with ⟨h,k,c,rfl,rfl,rfl⟩|⟨k,c,rfl,rfl⟩|⟨k,c,rfl,rfl⟩
 ·exact hnd h k c
 ·exact jmp y k c
 ·exact nxt y k c
structure Afe (E:Zx) (F:Nat→Option Zt) (W:Nat→Prop) (p:Nat) (x:Zt):Prop where
 rl:∃ y,E.rl p x=some y
 go:∀ q y a,Abj E p x q y a→0≤q∧q<(E.n:Int)∧(y.stack.length:Int)≤E.hi∧(∃ z,F q.toNat=some z∧Aac E.T y z)∧(a=true→W q.toNat)
structure Ac0 (E:Zx) (F:Nat→Option Zt):Prop where
 inv:∀ p x,F p=some x→E.I x
 x0:∃ y,F 0=some y∧Aac E.T E.x0 y
 sat:∀ p∈E.ps,∀ x,F p=some x→Afe E F (fun _=>True) p x
def Aey (E:Zx) (p q:Nat):Prop:=(∃ h∈E.hs,Aao h (p:Int)=true∧h.target.toNat=q)∨(Aad (E.op p)=true∧(E.ar p).toNat=q)
theorem Aac.refl (T:List Int) (x:Zt):Aac T x x:=⟨.refl _ _,.refl _ _⟩
theorem Aac.trans {E:Zx} (g:E.Good) {x y z:Zt} (h:Aac E.T x y) (k:Aac E.T y z) (hx:Aay E.T x) (hy:Aay E.T y) (hz:Aay E.T z):Aac E.T x z :=
 ⟨h.lo.trans g.T k.lo hx.1 hy.1 hz.1,h.st.trans g.T k.st hx.2 hy.2 hz.2⟩
theorem Aac.anti {E:Zx} (g:E.Good) {x y:Zt} (h:Aac E.T x y) (k:Aac E.T y x) (hx:Aay E.T x) (hy:Aay E.T y):x=y:=by
 obtain⟨a,b⟩:=x;obtain⟨c,d⟩:=y;have h1:=h.lo.anti g.T k.lo hx.1 hy.1;have h2:=h.st.anti g.T k.st hx.2 hy.2;simp only at h1 h2;rw[h1,h2]
theorem En {T:List Int}:∀ {a b:List (Int × Int)},a.length=b.length→(Aaj T a b=true↔Aam T a b)
 | [],[],_=>⟨fun _=>.nil,fun _=>rfl⟩
 | [],_::_,h=>by simp at h
 | _::_,[],h=>by simp at h
 | s::a,t::b,h=>by
  have ih:=En (T:=T) (a:=a) (b:=b) (by simpa using h);simp only[Aaj,Bool.and_eq_true]
  constructor
  ·rintro ⟨h1,h2⟩;exact .cons h1 (ih.1 h2)
  ·intro k;cases k using Aam.el with
   | cons k1 k2=>exact⟨k1,ih.2 k2⟩
theorem Wi {T:List Int}{x y:Zt}:Acb T x y=true↔Aac T x y:=by
 unfold Acb Add
 constructor
 ·intro h;simp only[Bool.and_eq_true]at h;obtain⟨h1,h2⟩:=h
  split at h1
  ·next e1 =>
   split at h2
   ·next e2=>exact⟨(En e1).1 h1,(En e2).1 h2⟩
   ·cases h2
  ·cases h1
 ·intro h;rw[if_pos h.lo.len,if_pos h.st.len,(En h.lo.len).2 h.lo,(En h.st.len).2 h.st];rfl
theorem Js {T:List Int} (hT:Tr.Ok T):∀ (a b:List (Int × Int)),(∀ t∈a,Tr.Arg T t.1 t.2)→(∀ t∈b,Tr.Arg T t.1 t.2)→a.length=b.length →
  Aam T a (List.zipWith (Tr.joinT T) a b)∧Aam T b (List.zipWith (Tr.joinT T) a b)∧∀ c,(∀ t∈c,Tr.Arg T t.1 t.2)→Aam T a c→Aam T b c→Aam T (List.zipWith (Tr.joinT T) a b) c
 | [],[],_,_,_=>⟨.nil,.nil,fun c _ h _=>h⟩
 | [],_::_,_,_,h=>by simp at h
 | _::_,[],_,_,h=>by simp at h
 | s::a,t::b,ha,hb,h=>by
  obtain⟨i1,i2,i3⟩:=Js hT a b (fun t ht=>ha t (by simp[ht])) (fun t ht=>hb t (by simp[ht])) (by simpa using h);obtain⟨_,j1,j2,j3⟩:=Tr.join_spec hT (k:=s.1) (n:=s.2) (k':=t.1) (n':=t.2) (ha s (by simp)) (hb t (by simp));refine⟨.cons j1 i1,.cons j2 i2,fun c hc h1 h2=>?_⟩;cases h1 using Aam.el with
  | cons h11 h12 =>
   cases h2 using Aam.el with
   | cons h21 h22=>exact .cons (j3 _ _ (hc _ (by simp)) h11 h21) (i3 _ (fun t ht=>hc t (by simp[ht])) h12 h22)
theorem He {T:List Int} (hT:Tr.Ok T) {x y:Zt} (hx:Aay T x) (hy:Aay T y) (hl:x.locals.length=y.locals.length) (hs:x.stack.length=y.stack.length) :
  Aac T x (Aa1 T x y)∧Aac T y (Aa1 T x y)∧∀ z,Aay T z→Aac T x z→Aac T y z→Aac T (Aa1 T x y) z:=by
 obtain⟨a1,a2,a3⟩:=Js hT x.locals y.locals hx.1 hy.1 hl;obtain⟨b1,b2,b3⟩:=Js hT x.stack y.stack hx.2 hy.2 hs;exact⟨⟨a1,b1⟩,⟨a2,b2⟩,fun z hz h1 h2=>⟨a3 _ hz.1 h1.lo h2.lo,b3 _ hz.2 h1.st h2.st⟩⟩
theorem Mu {E:Zx} (g:E.Good) {p:Nat} (hp:p∈E.ps) {x y:Zt} (hx:E.I x) (hy:E.I y) (h:Aac E.T x y) {q:Int}{u:Zt}{a:Bool} (hg:Abj E p x q u a) (hr:∃ z,E.rl p y=some z):∃ z,Abj E p y q z a∧Aac E.T u z:=by
 cases hg using Abj.el with
 | hnd k hk hc=>exact⟨_,.hnd k hk hc,h.lo,.refl _ _⟩
 | jmp _ h1 h2 =>
  obtain⟨z,hz⟩:=hr;obtain⟨u',h3,h4⟩:=g.mono p hp x y z hx hy h hz;rw[h1]at h3;cases h3;exact⟨z,.jmp z hz h2,h4⟩
 | nxt _ h1 h2 =>
  obtain⟨z,hz⟩:=hr;obtain⟨u',h3,h4⟩:=g.mono p hp x y z hx hy h hz;rw[h1]at h3;cases h3;exact⟨z,.nxt z hz h2,h4⟩
theorem Ev {E:Zx} (g:E.Good) {p:Nat} (hp:p∈E.ps) {x:Zt} (hx:E.I x) {q:Int}{u:Zt}{a:Bool} (hg:Abj E p x q u a):u.locals.length=E.lo∧(∀ t∈u.locals,Aaa E.T E.isN t)∧∀ t∈u.stack,Aaa E.T E.isN t:=by
 cases hg using Abj.el with
 | hnd k hk hc=>exact⟨hx.lo,hx.tl,fun t ht=>by rw[List.mem_singleton.1 ht];exact⟨(g.hnd k hk).2.2.2,fun h=>by simp at h⟩⟩
 | jmp _ h1 _=>have:=g.rl p hp x u hx h1;exact⟨this.lo,this.tl,this.ts⟩
 | nxt _ h1 _=>have:=g.rl p hp x u hx h1;exact⟨this.lo,this.tl,this.ts⟩
theorem Ov {E:Zx}{p:Nat}{x:Zt}{q:Int}{u:Zt} (hg:Abj E p x q u true):Aey E p q.toNat:=by
 cases hg using Abj.el with
 | hnd k hk hc=>exact .inl ⟨k,hk,hc,rfl⟩
 | jmp _ h1 h2=>exact .inr ⟨h2,rfl⟩
theorem Qq {E:Zx} (g:E.Good) {p:Nat} (hp:p∈E.ps) {x:Zt}{q:Int}{u:Zt}{a:Bool} (hg:Abj E p x q u a) (hq:q<(E.n:Int)):q.toNat∈E.ps:=by
 cases hg using Abj.el with
 | hnd k hk hc=>exact(g.hnd k hk).2.2.1
 | jmp _ h1 h2=>exact(g.tgt p hp h2).2.2
 | nxt _ h1 _=>exact g.nxt p hp hq
theorem Sj {E:Zx} (g:E.Good) {F G:Nat→Option Zt} (hF:Ac0 E F) (hG:Ac0 E G) (h1:∀ p x,F p=some x→∃ y,G p=some y∧Aac E.T x y) (h2:∀ p x,G p=some x→∃ y,F p=some y∧Aac E.T x y) (p:Nat):F p=G p:=by
 cases hf:F p with
 | none =>
  cases hg:G p with
  | none=>rfl
  | some y =>
   obtain⟨z,hz,_⟩:=h2 p y hg;rw[hf]at hz;cases hz
 | some x =>
  obtain⟨y,hy,k1⟩:=h1 p x hf;obtain⟨z,hz,k2⟩:=h2 p y hy;rw[hf]at hz;cases hz;rw[hy,Aac.anti g k1 k2 (hF.inv p x hf).arg (hG.inv p y hy).arg]
def Zv.F (s:Zv) (q:Nat):Option Zt:=if (s.at q).st=true then some (s.at q).fr else none
theorem Ct {s:Zv}{q:Nat}{x:Zt}:s.F q=some x↔(s.at q).st=true∧(s.at q).fr=x:=by
 unfold Zv.F
 split
 ·next h=>simp[h]
 ·next h=>simp[h]
theorem at_out {s:Zv}{q:Nat} (h:s.sp.length≤q):s.at q=Ab4:=by unfold Zv.at;rw[List.getD_eq_getElem?_getD,List.getElem?_eq_none h];rfl
theorem Zr {s:Zv}{q:Nat} (h:(s.at q).st=true):q<s.sp.length:=by
 by_cases hq:q<s.sp.length
 ·exact hq
 ·rw[at_out (by omega)]at h;cases h
abbrev Zx.Ok (E:Zx) (s:Zv):Prop:=Acn E.T E.lo E.hi E.isN s
theorem Dl {E:Zx}{s:Zv} (h:E.Ok s) {q:Nat} (hq:(s.at q).st=true):E.I (s.at q).fr:=(h _ (Abx (Zr hq))).1 hq
structure Ac5 (E:Zx) (s s':Zv):Prop where
 ok:E.Ok s'
 len:s'.sp.length=s.sp.length
 hop:s.hop=true→s'.hop=true
 st:∀ q,(s.at q).st=true→(s'.at q).st=true∧Aac E.T (s.at q).fr (s'.at q).fr
 wa:∀ q,(s.at q).wa=true→(s'.at q).wa=true
 ri:∀ q,(s'.at q).ri=false→(s.at q).ri=false∧(s'.at q).fr=(s.at q).fr∧(s'.at q).st=(s.at q).st
theorem Ac5.refl {E:Zx}{s:Zv} (h:E.Ok s):Ac5 E s s:=⟨h,rfl,fun h=>h,fun q h=>⟨h,.refl _ _⟩,fun _ h=>h,fun _ h=>⟨h,rfl,rfl⟩⟩
theorem Ac5.trans {E:Zx} (g:E.Good) {a b c:Zv} (ha:E.Ok a) (h:Ac5 E a b) (k:Ac5 E b c):Ac5 E a c:=by
 refine⟨k.ok,k.len.trans h.len,fun x=>k.hop (h.hop x),fun q hq=>?_,fun q hq=>k.wa q (h.wa q hq),fun q hq=>?_⟩
 ·obtain⟨h1,h2⟩:=h.st q hq;obtain⟨k1,k2⟩:=k.st q h1;exact⟨k1,h2.trans g k2 (Dl ha hq).arg (Dl h.ok h1).arg (Dl k.ok k1).arg⟩
 ·obtain⟨k1,k2,k3⟩:=k.ri q hq;obtain⟨h1,h2,h3⟩:=h.ri q k1;exact⟨h1,k2.trans h2,k3.trans h3⟩
theorem Ac5.stop {E:Zx}{s:Zv} (h:E.Ok s):Ac5 E s s.stop:=⟨h,rfl,fun _=>rfl,fun q h=>⟨h,.refl _ _⟩,fun _ h=>h,fun _ h=>⟨h,rfl,rfl⟩⟩
theorem D6 (s:Zv) {q:Nat} (hq:q<s.sp.length) (y:Zt) (i:Nat):(s.put q y).at i=if i=q then ⟨y,true,true,(s.at q).wa⟩ else s.at i:=by
 unfold Zv.put Zv.at;simp only[List.getD_eq_getElem?_getD,List.getElem?_set];by_cases e:q=i
 ·subst e;simp[hq]
 ·rw[if_neg e,if_neg (fun h=>e h.symm)]
theorem Et (s:Zv) {q:Nat} (hq:q<s.sp.length) (i:Nat):(s.want q).at i=if i=q then ⟨(s.at q).fr,(s.at q).st,(s.at q).ri,true⟩ else s.at i:=by
 unfold Zv.want Zv.at;simp only[List.getD_eq_getElem?_getD,List.getElem?_set];by_cases e:q=i
 ·subst e;simp[hq]
 ·rw[if_neg e,if_neg (fun h=>e h.symm)]
theorem Fx (s:Zv) {q:Nat} (hq:q<s.sp.length) (i:Nat):(s.calm q).at i=if i=q then ⟨(s.at q).fr,(s.at q).st,false,(s.at q).wa⟩ else s.at i:=by
 unfold Zv.calm Zv.at;simp only[List.getD_eq_getElem?_getD,List.getElem?_set];by_cases e:q=i
 ·subst e;simp[hq]
 ·rw[if_neg e,if_neg (fun h=>e h.symm)]
theorem Ac5.put {E:Zx}{s:Zv} (h:E.Ok s) {q:Nat} (hq:q<s.sp.length) {y:Zt} (hy:E.I y) (hl:(s.at q).st=true→Aac E.T (s.at q).fr y):Ac5 E s (s.put q y):=by
 refine⟨fun p hp=>?_,by simp[Zv.put],fun h=>h,fun i hi=>?_,fun i hi=>?_,fun i hi=>?_⟩
 ·rcases List.mem_or_eq_of_mem_set hp with hp|rfl
  ·exact h p hp
  ·exact⟨fun _=>hy,fun _=>rfl⟩
 ·rw[D6 s hq]
  split
  ·next e=>subst e;exact⟨rfl,hl hi⟩
  ·exact⟨hi,.refl _ _⟩
 ·rw[D6 s hq]
  split
  ·next e=>subst e;exact hi
  ·exact hi
 ·rw[D6 s hq]at hi ⊢
  split at hi
  ·cases hi
  ·next e=>rw[if_neg e];exact⟨hi,rfl,rfl⟩
theorem Ac5.want {E:Zx}{s:Zv} (h:E.Ok s) {q:Nat} (hq:q<s.sp.length):Ac5 E s (s.want q):=by
 refine⟨fun p hp=>?_,by simp[Zv.want],fun h=>h,fun i hi=>?_,fun i hi=>?_,fun i hi=>?_⟩
 ·rcases List.mem_or_eq_of_mem_set hp with hp|rfl
  ·exact h p hp
  ·exact⟨(h _ (Abx hq)).1,(h _ (Abx hq)).2⟩
 ·rw[Et s hq]
  split
  ·next e=>subst e;exact⟨hi,.refl _ _⟩
  ·exact⟨hi,.refl _ _⟩
 ·rw[Et s hq]
  split
  ·rfl
  ·exact hi
 ·rw[Et s hq]at hi ⊢
  split at hi
  ·next e=>subst e;rw[if_pos rfl];exact⟨hi,rfl,rfl⟩
  ·next e=>rw[if_neg e];exact⟨hi,rfl,rfl⟩
theorem Uq {E:Zx} (g:E.Good) {s:Zv} (h:E.Ok s) (hn:s.sp.length=E.n) {x:Zt} (hx:x.locals.length=E.lo∧(∀ t∈x.locals,Aaa E.T E.isN t)∧∀ t∈x.stack,Aaa E.T E.isN t) (q:Int) :
  Ac5 E s (Aaf E.T E.hi x q s)∧((Aaf E.T E.hi x q s).hop=false→0≤q∧q<(E.n:Int)∧(x.stack.length:Int)≤E.hi∧((Aaf E.T E.hi x q s).at q.toNat).st=true∧Aac E.T x ((Aaf E.T E.hi x q s).at q.toNat).fr) ∧
  (∀ i,((Aaf E.T E.hi x q s).at i).st=true→(s.at i).st=true∨(i=q.toNat∧q<(E.n:Int)))∧(∀ i,((Aaf E.T E.hi x q s).at i).wa=(s.at i).wa):=by
 unfold Aaf
 split
 ·exact⟨.stop h,fun h=>(by cases h),fun i hi=>.inl hi,fun _=>rfl⟩
 ·next hc =>
  have hx':E.I x:=⟨hx.1,by omega,hx.2.1,hx.2.2⟩;have hq:q.toNat<s.sp.length:=by omega
  split
  ·next h1 =>
   refine⟨.put h hq hx' (fun e=>by rw[h1]at e;cases e),fun _=>⟨by omega,by omega,by omega,?_⟩,fun i hi=>?_,fun i=>?_⟩
   ·rw[D6 s hq,if_pos rfl];exact⟨rfl,.refl _ _⟩
   ·rw[D6 s hq]at hi
    split at hi
    ·next e=>exact .inr ⟨e,by omega⟩
    ·exact .inl hi
   ·rw[D6 s hq]
    split
    ·next e=>rw[e]
    ·rfl
  ·next h1 =>
   have h1':(s.at q.toNat).st=true:=by simpa using h1
   have hy:=Dl h h1'
   split
   ·next h2=>exact⟨.refl h,fun _=>⟨by omega,by omega,by omega,h1',Wi.1 h2⟩,fun i hi=>.inl hi,fun _=>rfl⟩
   ·split
    ·next h3 =>
     obtain⟨j1,j2,j3⟩:=He g.T hx'.arg hy.arg h3.1 h3.2;refine⟨.put h hq (J5 g.T hx' hy) (fun _=>j2),fun _=>⟨by omega,by omega,by omega,?_⟩,fun i hi=>?_,fun i=>?_⟩
     ·rw[D6 s hq,if_pos rfl];exact⟨rfl,j1⟩
     ·rw[D6 s hq]at hi
      split at hi
      ·next e=>exact .inr ⟨e,by omega⟩
      ·exact .inl hi
     ·rw[D6 s hq]
      split
      ·next e=>rw[e]
      ·rfl
    ·exact⟨.stop h,fun h=>(by cases h),fun i hi=>.inl hi,fun _=>rfl⟩
def Abh (E:Zx) (F:Nat→Option Zt) (s:Zv):Prop:=s.hop=false∧∀ q,(s.at q).st=true→∃ z,F q=some z∧Aac E.T (s.at q).fr z
theorem Ga {E:Zx} (g:E.Good) {F:Nat→Option Zt} (hF:∀ p x,F p=some x→E.I x) {s:Zv} (h:E.Ok s) (hn:s.sp.length=E.n) (hu:Abh E F s) {x:Zt} (hx:x.locals.length=E.lo∧(∀ t∈x.locals,Aaa E.T E.isN t)∧∀ t∈x.stack,Aaa E.T E.isN t) {q:Int}
  (h0:0≤q) (h1:q<(E.n:Int)) {z:Zt} (hz:F q.toNat=some z) (hl:Aac E.T x z):Abh E F (Aaf E.T E.hi x q s):=by
 have iz:=hF _ _ hz;have hs:(x.stack.length:Int)≤E.hi:=by rw[hl.st.len];exact iz.hi
 have hx':E.I x:=⟨hx.1,hs,hx.2.1,hx.2.2⟩;have hq:q.toNat<s.sp.length:=by omega
 unfold Aaf;rw[if_neg (by omega)];have put:∀ y,Aac E.T y z→Abh E F (s.put q.toNat y):=fun y hy=>by
  refine⟨hu.1,fun i hi=>?_⟩;rw[D6 s hq]at hi ⊢
  split at hi
  ·next e=>subst e;rw[if_pos rfl];exact⟨z,hz,hy⟩
  ·next e=>rw[if_neg e];exact hu.2 i hi
 split
 ·exact put x hl
 ·next h2 =>
  have h2':(s.at q.toNat).st=true:=by simpa using h2
  split
  ·exact hu
  ·obtain⟨z',hz',hl'⟩:=hu.2 _ h2';rw[hz]at hz';cases hz';have e1:x.locals.length=(s.at q.toNat).fr.locals.length:=hl.lo.len.trans hl'.lo.len.symm;have e2:x.stack.length=(s.at q.toNat).fr.stack.length:=hl.st.len.trans hl'.st.len.symm;rw[if_pos ⟨e1,e2⟩];exact put _ ((He g.T hx'.arg (Dl h h2').arg e1 e2).2.2 z iz.arg hl hl')
def Adz (E:Zx) (s:Zv) (q:Int) (y:Zt) (a:Bool):Prop:=0≤q∧q<(E.n:Int)∧(y.stack.length:Int)≤E.hi∧(∃ z,s.F q.toNat=some z∧Aac E.T y z)∧(a=true→(s.at q.toNat).wa=true)
theorem Adz.up {E:Zx} (g:E.Good) {s s':Zv} (hs:E.Ok s) (h:Ac5 E s s') {q:Int}{y:Zt} (hy:Aay E.T y) {a:Bool} (ht:Adz E s q y a):Adz E s' q y a:=by
 obtain⟨h1,h2,h3,⟨z,hz,hl⟩,h5⟩:=ht;obtain⟨e1,rfl⟩:=Ct.1 hz;obtain⟨k1,k2⟩:=h.st _ e1;exact⟨h1,h2,h3,⟨_,Ct.2 ⟨k1,rfl⟩,hl.trans g k2 hy (Dl hs e1).arg (Dl h.ok k1).arg⟩,fun e=>h.wa _ (h5 e)⟩
structure Ae7 (E:Zx) (s s':Zv) (q:Int) (y:Zt) (a:Bool):Prop where
 up:Ac5 E s s'
 told:s'.hop=false→Adz E s' q y a
 st:∀ i,(s'.at i).st=true→(s.at i).st=true∨(i=q.toNat∧q<(E.n:Int))
 wa:∀ i,(s'.at i).wa=true→(s.at i).wa=true∨(i=q.toNat∧a=true)
theorem Fe {E:Zx} (g:E.Good) {s:Zv} (h:E.Ok s) (hn:s.sp.length=E.n) {x:Zt} (hx:x.locals.length=E.lo∧(∀ t∈x.locals,Aaa E.T E.isN t)∧∀ t∈x.stack,Aaa E.T E.isN t) (q:Int):Ae7 E s (Aaf E.T E.hi x q s) q x false:=by
 obtain⟨a1,a2,a3,a4⟩:=Uq g h hn hx q;refine⟨a1,fun hh=>?_,a3,fun i hi=>.inl (by rw[← a4];exact hi)⟩;obtain⟨b1,b2,b3,b4,b5⟩:=a2 hh;exact⟨b1,b2,b3,⟨_,Ct.2 ⟨b4,rfl⟩,b5⟩,fun e=>by cases e⟩
theorem Gn {E:Zx} (g:E.Good) {s:Zv} (h:E.Ok s) (hn:s.sp.length=E.n) {x:Zt} (hx:x.locals.length=E.lo∧(∀ t∈x.locals,Aaa E.T E.isN t)∧∀ t∈x.stack,Aaa E.T E.isN t) (q:Int):Ae7 E s (Abl E.T E.hi x q s) q x true:=by
 have c:=Fe g h hn hx q;unfold Abl Aec;have hlen:=c.up.len
 split
 ·next hc =>
  have hq:q.toNat<(Aaf E.T E.hi x q s).sp.length:=by omega
  have u:=Ac5.want c.up.ok hq;refine⟨c.up.trans g h u,fun hh=>?_,fun i hi=>?_,fun i hi=>?_⟩
  ·have t:=(c.told hh).up g c.up.ok u ⟨fun t ht=>(hx.2.1 t ht).1,fun t ht=>(hx.2.2 t ht).1⟩;exact⟨t.1,t.2.1,t.2.2.1,t.2.2.2.1,fun _=>by rw[Et _ hq,if_pos rfl]⟩
  ·rw[Et _ hq]at hi
   split at hi
   ·next e=>subst e;exact c.st _ hi
   ·exact c.st i hi
  ·rw[Et _ hq]at hi
   split at hi
   ·next e=>exact .inr ⟨e,rfl⟩
   ·rcases c.wa i hi with h|⟨_,h⟩
    ·exact .inl h
    ·cases h
 ·next hc =>
  refine⟨c.up,fun hh=>?_,c.st,fun i hi=>?_⟩
  ·have t:=c.told hh;exact absurd ⟨t.1,by rw[hlen,hn];exact t.2.1⟩ hc
  ·rcases c.wa i hi with h|⟨_,h⟩
   ·exact .inl h
   ·cases h
theorem Lc {E:Zx} (g:E.Good) {F:Nat→Option Zt} (hF:∀ p x,F p=some x→E.I x) {s:Zv} (h:E.Ok s) (hn:s.sp.length=E.n) (hu:Abh E F s) {x:Zt} (hx:x.locals.length=E.lo∧(∀ t∈x.locals,Aaa E.T E.isN t)∧∀ t∈x.stack,Aaa E.T E.isN t) {q:Int}
  (h0:0≤q) (h1:q<(E.n:Int)) {z:Zt} (hz:F q.toNat=some z) (hl:Aac E.T x z):Abh E F (Abl E.T E.hi x q s):=by
 have u:=Ga g hF h hn hu hx h0 h1 hz hl;unfold Abl Aec
 split
 ·next hc =>
  have hq:q.toNat<(Aaf E.T E.hi x q s).sp.length:=by omega
  refine⟨u.1,fun i hi=>?_⟩;rw[Et _ hq]at hi ⊢
  split at hi
  ·next e=>subst e;rw[if_pos rfl];exact u.2 _ hi
  ·next e=>rw[if_neg e];exact u.2 i hi
 ·exact u
structure Ack (E:Zx) (s s':Zv) (R:Int→Zt→Bool→Prop):Prop where
 up:Ac5 E s s'
 told:s'.hop=false→∀ q y a,R q y a→Adz E s' q y a
 st:∀ i,(s'.at i).st=true→(s.at i).st=true∨∃ q y a,R q y a∧i=q.toNat∧q<(E.n:Int)
 wa:∀ i,(s'.at i).wa=true→(s.at i).wa=true∨∃ q y,R q y true∧i=q.toNat
theorem Ack.nil {E:Zx}{s:Zv} (h:E.Ok s) {R:Int→Zt→Bool→Prop} (hR:∀ q y a,¬ R q y a):Ack E s s R:=⟨.refl h,fun _ q y a h=>absurd h (hR q y a),fun _ h=>.inl h,fun _ h=>.inl h⟩
theorem Ack.one {E:Zx}{s s':Zv}{q:Int}{y:Zt}{a:Bool} (h:Ae7 E s s' q y a) {R:Int→Zt→Bool→Prop} (hR:∀ q' y' a',R q' y' a'↔q'=q∧y'=y∧a'=a):Ack E s s' R :=
 ⟨h.up,fun hh q' y' a' hr=>by obtain⟨rfl,rfl,rfl⟩:=(hR q' y' a').1 hr;exact h.told hh,fun i hi=>(h.st i hi).imp id fun ⟨e1,e2⟩=>⟨q,y,a,(hR _ _ _).2 ⟨rfl,rfl,rfl⟩,e1,e2⟩,fun i hi=>(h.wa i hi).imp id fun ⟨e1,e2⟩=>⟨q,y,(hR _ _ _).2 ⟨rfl,rfl,e2.symm⟩,e1⟩⟩
theorem Ack.trans {E:Zx} (g:E.Good) {s t u:Zv} (hs:E.Ok s) {A B R:Int→Zt→Bool→Prop} (h:Ack E s t A) (k:Ack E t u B) (hA:∀ q y a,A q y a→Aay E.T y) (hR:∀ q y a,R q y a↔A q y a∨B q y a):Ack E s u R:=by
 refine⟨h.up.trans g hs k.up,fun hh q y a hr=>?_,fun i hi=>?_,fun i hi=>?_⟩
 ·have ht:t.hop=false:=by
   cases e:t.hop with
   | false=>rfl
   | true=>rw[k.up.hop e]at hh;cases hh
  rcases(hR q y a).1 hr with h1|h1
  ·exact(h.told ht q y a h1).up g h.up.ok k.up (hA q y a h1)
  ·exact k.told hh q y a h1
 ·rcases k.st i hi with h1|⟨q,y,a,h1,h2⟩
  ·exact(h.st i h1).imp id fun ⟨q,y,a,h1,h2⟩=>⟨q,y,a,(hR _ _ _).2 (.inl h1),h2⟩
  ·exact .inr ⟨q,y,a,(hR _ _ _).2 (.inr h1),h2⟩
 ·rcases k.wa i hi with h1|⟨q,y,h1,h2⟩
  ·exact(h.wa i h1).imp id fun ⟨q,y,h1,h2⟩=>⟨q,y,(hR _ _ _).2 (.inl h1),h2⟩
  ·exact .inr ⟨q,y,(hR _ _ _).2 (.inr h1),h2⟩
theorem Eu {E:Zx} (g:E.Good) {x:Zt} (hx:E.I x) (p:Nat):∀ (l:List Rd.Hnd),(∀ h∈l,h∈E.hs)→∀ {s:Zv},E.Ok s→s.sp.length=E.n →
  Ack E s (Aae E.T E.hi (p:Int) x.locals l s) (fun q y a=>∃ h∈l,Aao h (p:Int)=true∧q=h.target∧y=Aat x h∧a=true)
 | [],_,s,h0,_=>.nil h0 (by rintro q y a ⟨h,hh,_⟩;simp at hh)
 | h::r,hm,s,h0,hn=>by
  unfold Aae;have hf:(Aat x h).locals.length=E.lo∧(∀ t∈(Aat x h).locals,Aaa E.T E.isN t)∧∀ t∈(Aat x h).stack,Aaa E.T E.isN t :=
   ⟨hx.lo,hx.tl,fun t ht=>by rw[List.mem_singleton.1 ht];exact⟨(g.hnd h (hm h (by simp))).2.2.2,fun h=>by simp at h⟩⟩
  have h1:Ack E s (if Aao h (p:Int)=true then Abl E.T E.hi ⟨x.locals,[(3,h.cl)]⟩ h.target s else s) (fun q y a=>Aao h (p:Int)=true∧q=h.target∧y=Aat x h∧a=true):=by
   split
   ·next hc=>exact .one (Gn g h0 hn hf h.target) (fun q y a=>by simp[hc])
   ·next hc=>exact .nil h0 (by rintro q y a ⟨h,_⟩;exact hc h)
  refine h1.trans g h0 (Eu g hx p r (fun z hz=>hm z (by simp[hz])) h1.up.ok (h1.up.len.trans hn)) ?_ (fun q y a=>?_)
  ·rintro q y a ⟨_,_,rfl,_⟩;exact⟨fun t ht=>(hf.2.1 t ht).1,fun t ht=>(hf.2.2 t ht).1⟩
  ·constructor
   ·rintro ⟨k,hk,hr⟩;rcases List.mem_cons.1 hk with rfl|hk
    ·exact .inl hr
    ·exact .inr ⟨k,hk,hr⟩
   ·rintro (hr|⟨k,hk,hr⟩)
    ·exact⟨h,by simp,hr⟩
    ·exact⟨k,by simp[hk],hr⟩
theorem Eo {E:Zx} (g:E.Good) {F:Nat→Option Zt} (hF:∀ p x,F p=some x→E.I x) {x:Zt} (hx:E.I x) (p:Nat):∀ (l:List Rd.Hnd),(∀ h∈l,h∈E.hs) →
  (∀ h∈l,Aao h (p:Int)=true→∃ z,F h.target.toNat=some z∧Aac E.T (Aat x h) z)→∀ {s:Zv},E.Ok s→s.sp.length=E.n→Abh E F s→Abh E F (Aae E.T E.hi (p:Int) x.locals l s)
 | [],_,_,s,_,_,hu=>hu
 | h::r,hm,hz,s,h0,hn,hu=>by
  unfold Aae;have hg:=g.hnd h (hm h (by simp));have hf:(Aat x h).locals.length=E.lo∧(∀ t∈(Aat x h).locals,Aaa E.T E.isN t)∧∀ t∈(Aat x h).stack,Aaa E.T E.isN t :=
   ⟨hx.lo,hx.tl,fun t ht=>by rw[List.mem_singleton.1 ht];exact⟨hg.2.2.2,fun h=>by simp at h⟩⟩
  by_cases hc:Aao h (p:Int)=true
  ·rw[if_pos hc];obtain⟨z,z1,z2⟩:=hz h (by simp) hc;have c:=Gn g h0 hn hf h.target;exact Eo g hF hx p r (fun z hz=>hm z (by simp[hz])) (fun z hz'=>hz z (by simp[hz'])) c.up.ok (c.up.len.trans hn) (Lc g hF h0 hn hu hf hg.1 hg.2.1 z1 z2)
  ·rw[if_neg hc];exact Eo g hF hx p r (fun z hz=>hm z (by simp[hz])) (fun z hz'=>hz z (by simp[hz'])) h0 hn hu
structure Adf (E:Zx) (bh:Cd.Ins→Zt→Option Zt) (i:Cd.Ins) (p:Nat):Prop where
 mem:p∈E.ps
 pl:i.place=(p:Int)
 op:i.op=E.op p
 ar:Aad (E.op p)=true→i.n=E.ar p
 rl:∀ x,E.I x→bh i x=E.rl p x
theorem Rh {E:Zx} (g:E.Good) {bh:Cd.Ins→Zt→Option Zt}{i:Cd.Ins}{p:Nat} (hi:Adf E bh i p) {x:Zt} (hx:E.I x) {s:Zv} (h0:E.Ok s) (hn:s.sp.length=E.n) :
  Ack E s (Acz E.T E.hi E.hs bh i x s) (Abj E p x)∧((Acz E.T E.hi E.hs bh i x s).hop=false→∃ y,E.rl p x=some y):=by
 have hH:=Eu g hx p E.hs (fun h hh=>hh) h0 hn;have hHA:∀ q y a,(∃ h∈E.hs,Aao h (p:Int)=true∧q=h.target∧y=Aat x h∧a=true)→Aay E.T y:=by
  rintro q y a ⟨h,hh,hc,rfl,rfl,rfl⟩;have:=Ev g hi.mem hx (.hnd h hh hc);exact⟨fun t ht=>(this.2.1 t ht).1,fun t ht=>(this.2.2 t ht).1⟩
 unfold Acz;rw[hi.rl x hx,hi.pl,hi.op];cases hr:E.rl p x with
 | none =>
  refine⟨⟨hH.up.trans g h0 (.stop hH.up.ok),fun h=>(by cases h),fun i hi'=>?_,fun i hi'=>?_⟩,fun h=>(by cases h)⟩
  ·exact(hH.st i hi').imp id fun ⟨q,y,a,⟨h,hh,hc,e1,e2,e3⟩,h2⟩=>⟨q,y,a,by subst e1 e2 e3;exact .hnd h hh hc,h2⟩
  ·exact(hH.wa i hi').imp id fun ⟨q,y,⟨h,hh,hc,e1,e2,e3⟩,h2⟩=>⟨q,y,by subst e1 e2;exact .hnd h hh hc,h2⟩
 | some y =>
  have iy:=g.rl p hi.mem x y hx hr;have hy:y.locals.length=E.lo∧(∀ t∈y.locals,Aaa E.T E.isN t)∧∀ t∈y.stack,Aaa E.T E.isN t:=⟨iy.lo,iy.tl,iy.ts⟩;have h2:Ack E s (if Aad (E.op p)=true then Abl E.T E.hi y i.n (Aae E.T E.hi (p:Int) x.locals E.hs s) else Aae E.T E.hi (p:Int) x.locals E.hs s)
    (fun q z a=>(∃ h∈E.hs,Aao h (p:Int)=true∧q=h.target∧z=Aat x h∧a=true)∨(Aad (E.op p)=true∧q=E.ar p∧z=y∧a=true)):=by
   split
   ·next hj =>
    have c:=Gn g hH.up.ok (hH.up.len.trans hn) hy i.n;rw[hi.ar hj]at c ⊢;exact hH.trans g h0 (.one c (R:=fun q z a=>q=E.ar p∧z=y∧a=true) (fun _ _ _=>Iff.rfl)) hHA (fun q z a=>by simp[hj])
   ·next hj =>
    refine⟨hH.up,fun h q z a hh=>?_,fun i hi=>(hH.st i hi).imp id fun ⟨q,z,a,h1,h2⟩=>⟨q,z,a,.inl h1,h2⟩,fun i hi=>(hH.wa i hi).imp id fun ⟨q,z,h1,h2⟩=>⟨q,z,.inl h1,h2⟩⟩;rcases hh with hh | ⟨hh,_⟩
    ·exact hH.told h q z a hh
    ·exact absurd hh hj
  have h2A:∀ q z a,((∃ h∈E.hs,Aao h (p:Int)=true∧q=h.target∧z=Aat x h∧a=true)∨(Aad (E.op p)=true∧q=E.ar p∧z=y∧a=true))→Aay E.T z:=by
   rintro q z a (hh|⟨_,_,rfl,_⟩)
   ·exact hHA q z a hh
   ·exact iy.arg
  refine⟨?_,fun _=>⟨y,rfl⟩⟩;simp only
  split
  ·next hg =>
   have c:=Fe g h2.up.ok (h2.up.len.trans hn) hy ((p:Int)+(Cd.wd (E.op p):Int));refine h2.trans g h0 (.one c (R:=fun q z a=>q=(p:Int)+(Cd.wd (E.op p):Int)∧z=y∧a=false) (fun _ _ _=>Iff.rfl)) h2A (fun q z a=>?_)
   constructor
   ·intro h;cases h using Abj.el with
    | hnd h hh hc=>exact .inl (.inl ⟨h,hh,hc,rfl,rfl,rfl⟩)
    | jmp z h1 h2=>rw[hr]at h1;cases h1;exact .inl (.inr ⟨h2,rfl,rfl,rfl⟩)
    | nxt z h1 h2=>rw[hr]at h1;cases h1;exact .inr ⟨rfl,rfl,rfl⟩
   ·rintro ((⟨h,hh,hc,rfl,rfl,rfl⟩|⟨hj,rfl,rfl,rfl⟩)|⟨rfl,rfl,rfl⟩)
    ·exact .hnd h hh hc
    ·exact .jmp _ hr hj
    ·exact .nxt _ hr hg
  ·next hg =>
   refine⟨h2.up,fun h q z a hh=>h2.told h q z a ?_,fun i hi=>(h2.st i hi).imp id fun ⟨q,z,a,h1,h2⟩=>⟨q,z,a,?_,h2⟩,fun i hi=>(h2.wa i hi).imp id fun ⟨q,z,h1,h2⟩=>⟨q,z,?_,h2⟩⟩
   ·cases hh using Abj.el with
    | hnd h hh hc=>exact .inl ⟨h,hh,hc,rfl,rfl,rfl⟩
    | jmp z h1 h2=>rw[hr]at h1;cases h1;exact .inr ⟨h2,rfl,rfl,rfl⟩
    | nxt z h1 h2=>exact absurd h2 hg
   ·rcases h1 with ⟨h,hh,hc,rfl,rfl,rfl⟩|⟨hj,rfl,rfl,rfl⟩
    ·exact .hnd h hh hc
    ·exact .jmp _ hr hj
   ·rcases h1 with ⟨h,hh,hc,rfl,rfl,_⟩|⟨hj,rfl,rfl,_⟩
    ·exact .hnd h hh hc
    ·exact .jmp _ hr hj
theorem Q0 {E:Zx} (g:E.Good) {F:Nat→Option Zt} (hF:Ac0 E F) {bh:Cd.Ins→Zt→Option Zt}{i:Cd.Ins}{p:Nat} (hi:Adf E bh i p) {x z:Zt} (hx:E.I x) (hz:F p=some z) (hl:Aac E.T x z) {s:Zv} (h0:E.Ok s) (hn:s.sp.length=E.n) (hu:Abh E F s) :
  Abh E F (Acz E.T E.hi E.hs bh i x s):=by
 have sz:=hF.sat p hi.mem z hz;have iz:=hF.inv p z hz;have key:∀ {q u a},Abj E p x q u a→0≤q∧q<(E.n:Int)∧∃ v,F q.toNat=some v∧Aac E.T u v:=by
  intro q u a hg;obtain⟨u',k1,k2⟩:=Mu g hi.mem hx iz hl hg sz.rl;obtain⟨a1,a2,_,⟨v,a3,a4⟩,_⟩:=sz.go q u' a k1;have ou:=Ev g hi.mem hx hg;have ou':=Ev g hi.mem iz k1;exact⟨a1,a2,v,a3,k2.trans g a4 ⟨fun t ht=>(ou.2.1 t ht).1,fun t ht=>(ou.2.2 t ht).1⟩ ⟨fun t ht=>(ou'.2.1 t ht).1,fun t ht=>(ou'.2.2 t ht).1⟩ (hF.inv _ _ a3).arg⟩
 have hH:=Eu g hx p E.hs (fun h hh=>hh) h0 hn;have uH:=Eo g hF.inv hx p E.hs (fun h hh=>hh) (fun h hh hc=>(key (.hnd h hh hc)).2.2) h0 hn hu;obtain⟨zr,hzr⟩:=sz.rl;obtain⟨y,hr,_⟩:=g.mono p hi.mem x z zr hx iz hl hzr;have iy:=g.rl p hi.mem x y hx hr;have hy:y.locals.length=E.lo∧(∀ t∈y.locals,Aaa E.T E.isN t)∧∀ t∈y.stack,Aaa E.T E.isN t:=⟨iy.lo,iy.tl,iy.ts⟩;unfold Acz;rw[hi.rl x hx,hi.pl,hi.op,hr];simp only;have h2:E.Ok (if Aad (E.op p)=true then Abl E.T E.hi y i.n (Aae E.T E.hi (p:Int) x.locals E.hs s) else Aae E.T E.hi (p:Int) x.locals E.hs s) ∧
   (if Aad (E.op p)=true then Abl E.T E.hi y i.n (Aae E.T E.hi (p:Int) x.locals E.hs s) else Aae E.T E.hi (p:Int) x.locals E.hs s).sp.length=E.n ∧
   Abh E F (if Aad (E.op p)=true then Abl E.T E.hi y i.n (Aae E.T E.hi (p:Int) x.locals E.hs s) else Aae E.T E.hi (p:Int) x.locals E.hs s):=by
  split
  ·next hj =>
   have c:=Gn g hH.up.ok (hH.up.len.trans hn) hy i.n;obtain⟨k1,k2,v,k3,k4⟩:=key (.jmp y hr hj);rw[hi.ar hj]at c ⊢;exact⟨c.up.ok,c.up.len.trans (hH.up.len.trans hn),Lc g hF.inv hH.up.ok (hH.up.len.trans hn) uH hy k1 k2 k3 k4⟩
  ·exact⟨hH.up.ok,hH.up.len.trans hn,uH⟩
 split
 ·next hg =>
  obtain⟨k1,k2,v,k3,k4⟩:=key (.nxt y hr hg);exact Ga g hF.inv h2.1 h2.2.1 h2.2.2 hy k1 k2 k3 k4
 ·exact h2.2.2
end Go.Proofs.YtcefiamkoincoaaGreat
