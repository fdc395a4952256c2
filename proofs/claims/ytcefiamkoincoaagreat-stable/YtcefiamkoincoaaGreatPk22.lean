/- a part of the proof in YtcefiamkoincoaaGreatStableProof -/
import Derived.Test.YtcefiamkoincoaaGreatPk21
set_option maxRecDepth 100000
set_option maxHeartbeats 40000000
set_option linter.unusedVariables false
set_option linter.unusedSimpArgs false
namespace Go.Proofs.YtcefiamkoincoaaGreat
open Go.RowKit
def By (n:Int):Prop:=0≤n∧n≤255
def TyB (t:Int × Int):Prop:=By t.1∧By t.2
def Lies (s:List UInt8) (p:Nat) (l:List UInt8):Prop:=∃ r,s.drop p=l ++ r
theorem Lies.cut {s:List UInt8}{p:Nat}{a b:List UInt8} (h:Lies s p (a ++ b)):Lies s p a∧Lies s (p+a.length) b:=by
 obtain ⟨r,h⟩:=h;refine ⟨⟨b ++ r,by rw [h,List.append_assoc]⟩,⟨r,?_⟩⟩;rw [← List.drop_drop,h,List.append_assoc,List.drop_left]
theorem Lies.head {s:List UInt8}{p:Nat}{x:UInt8}{l:List UInt8} (h:Lies s p (x :: l)):s[p]?=some x∧p < s.length∧Lies s (p+1) l:=by
 obtain ⟨r,h⟩:=h;have h0:s[p]?=some x:=by
  have:=congrArg (·[0]?) h
  simpa using this
 refine ⟨h0,(List.getElem?_eq_some_iff.1 h0).1,⟨r,?_⟩⟩;rw [← List.drop_drop,h];rfl
theorem Xw {n:Int} (h:By n):((Wr.b n).toNat:Int)=n:=by
 unfold Wr.b;obtain ⟨h0,h1⟩:=h;rw [UInt8.toNat_ofNat',Int.emod_eq_of_lt (by omega) (by omega),Nat.mod_eq_of_lt (by omega)];omega
theorem Bp {s:List UInt8}{p:Nat}{n:Int}{l:List UInt8} (hn:By n) (h:Lies s p (Wr.b n :: l)):Rd.nx s ⟨p,false⟩=(n,⟨p+1,false⟩)∧Lies s (p+1) l:=by
 obtain ⟨h0,h1,h2⟩:=h.head;refine ⟨?_,h2⟩;unfold Rd.nx;rw [if_neg (by simp),if_neg (by simp only;omega),h0];simp only [Option.getD_some];rw [Xw hn]
theorem Cu {s:List UInt8}{p:Nat}{n a b:Int}{l:List UInt8} (hn:By n) (ha:a≤n) (hb:n≤b) (h:Lies s p (Wr.b n :: l)):Rd.cn s a b ⟨p,false⟩=(n,⟨p+1,false⟩)∧Lies s (p+1) l:=by
 obtain ⟨h0,h1⟩:=Bp hn h;refine ⟨?_,h1⟩;unfold Rd.cn;rw [h0];simp only;rw [if_neg (by omega),if_neg (by omega)]
theorem Ef {s:List UInt8}{α:Type} (f:Rd.St→α × Rd.St) (W:α→List UInt8) (l:List α) (hf:∀ x∈l,∀ p,Lies s p (W x)→f ⟨p,false⟩=(x,⟨p+(W x).length,false⟩)) (p:Nat) (h:Lies s p (l.flatMap W)) :
  Rd.rep f l.length ⟨p,false⟩=(l,⟨p+(l.flatMap W).length,false⟩):=by
 have key:∀ k,k≤l.length→Rd.rep f k ⟨p,false⟩=(l.take k,⟨p+((l.take k).flatMap W).length,false⟩):=by
  intro k
  induction k with
  | zero=>intro _;simp [Rd.rep]
  | succ k ih =>
   intro hk;have hkl:k < l.length:=by omega
   rw [Rd.rep,ih (by omega)];have e:l.flatMap W=(l.take k).flatMap W ++ (W l[k] ++ (l.drop (k+1)).flatMap W):=by
    conv=>lhs;rw [← List.take_append_drop k l,List.flatMap_append,List.drop_eq_getElem_cons hkl,List.flatMap_cons]
   rw [e] at h;have h2:=h.cut.2.cut.1;simp only;rw [hf l[k] (List.getElem_mem hkl) _ h2,List.take_succ_eq_append_getElem hkl];simp only [List.flatMap_append,List.flatMap_cons,List.flatMap_nil,List.append_nil,List.length_append];rw [Nat.add_assoc]
 have:=key l.length (Nat.le_refl _)
 rwa [List.take_length] at this
theorem Ps {s:List UInt8}{p:Nat}{t:Int × Int} (ht:TyB t) (h:Lies s p (Wr.ty t)):Rd.ty s ⟨p,false⟩=(t,⟨p+2,false⟩):=by
 obtain ⟨t1,t2⟩:=t;obtain ⟨a,b⟩:=Bp ht.1 h;obtain ⟨c,_⟩:=Bp ht.2 b;unfold Rd.ty;rw [a];simp only;rw [c]
theorem Cn (l:List (Int × Int)):(Wr.tys l).length=2 * l.length:=by
 induction l with
 | nil=>rfl
 | cons t r ih=>simp only [Wr.tys,List.flatMap_cons,List.length_append,List.length_cons] at ih ⊢;rw [ih];simp [Wr.ty];omega
theorem Hp {s:List UInt8}{p:Nat}{l:List (Int × Int)} (hl:∀ t∈l,TyB t) (h:Lies s p (Wr.tys l)):Rd.tys s l.length ⟨p,false⟩=(l,⟨p+2 * l.length,false⟩):=by
 unfold Rd.tys;rw [Ef (Rd.ty s) Wr.ty l (fun t ht q hq=>by rw [Ps (hl t ht) hq];rfl) p h,← Cn];rfl
structure ClsB (c:Rd.Cls):Prop where
 ab:By c.above
 fl:c.fields.length≤4
 ty:∀ t∈c.fields,TyB t
theorem Vj {s:List UInt8}{p:Nat}{c:Rd.Cls} (hc:ClsB c) (h:Lies s p (Wr.cls c)):Rd.cls s ⟨p,false⟩=(c,⟨p+(Wr.cls c).length,false⟩):=by
 obtain ⟨ab,fl⟩:=c;have hl:=hc.fl;simp only at hl;obtain ⟨a1,a2⟩:=Bp hc.ab h;obtain ⟨b1,b2⟩:=Cu (n:=(fl.length:Int)) (a:=0) (b:=4) ⟨by omega,by omega⟩ (by omega) (by omega) a2;have c1:=Hp (p:=p+1+1) hc.ty b2;unfold Rd.cls;rw [a1];simp only;rw [b1];simp only [Int.toNat_natCast];rw [c1];simp only [Wr.cls,List.length_cons,Cn];rw [show p+1+1+2 * fl.length=p+(2 * fl.length+1+1) by omega]
structure HndB (h:Rd.Hnd):Prop where
 fr:By h.frm
 tl:By h.til
 tg:By h.target
 cl:By h.cl
theorem Ve {s:List UInt8}{p:Nat}{c:Rd.Hnd} (hc:HndB c) (h:Lies s p (Wr.hnd c)):Rd.hnd s ⟨p,false⟩=(c,⟨p+(Wr.hnd c).length,false⟩):=by
 obtain ⟨x,y,z,u⟩:=c;obtain ⟨a1,a2⟩:=Bp hc.fr h;obtain ⟨b1,b2⟩:=Bp hc.tl a2;obtain ⟨c1,c2⟩:=Bp hc.tg b2;obtain ⟨d1,_⟩:=Bp hc.cl c2;unfold Rd.hnd;simp only [a1,b1,c1,d1,Wr.hnd,List.length_cons,List.length_nil]
theorem Uh {s:List UInt8}{p:Nat}{l:List Rd.Hnd} (h4:l.length≤4) (hl:∀ c∈l,HndB c) (h:Lies s p (Wr.hnds l)):Rd.hnds s ⟨p,false⟩=(l,⟨p+(Wr.hnds l).length,false⟩):=by
 obtain ⟨b1,b2⟩:=Cu (n:=(l.length:Int)) (a:=0) (b:=4) ⟨by omega,by omega⟩ (by omega) (by omega) h;unfold Rd.hnds;simp only [b1,Int.toNat_natCast];rw [Ef (Rd.hnd s) Wr.hnd l (fun t ht q hq=>Ve (hl t ht) hq) _ b2];simp only [Wr.hnds,List.length_cons];rw [show p+1+(l.flatMap Wr.hnd).length=p+((l.flatMap Wr.hnd).length+1) by omega]
structure MpB (lo hi:Int) (m:Rd.Mp):Prop where
 pl:By m.place
 lo:(m.locals.length:Int)=lo
 hi:(m.stack.length:Int)≤hi
 tl:∀ t∈m.locals,TyB t
 ts:∀ t∈m.stack,TyB t
theorem Xu {s:List UInt8}{p:Nat}{lo hi:Int}{m:Rd.Mp} (h255:hi≤255) (hm:MpB lo hi m) (h:Lies s p (Wr.mp m)):Rd.mp s lo hi ⟨p,false⟩=(m,⟨p+(Wr.mp m).length,false⟩):=by
 obtain ⟨pl,ls,ss⟩:=m;have hl:=hm.lo;have hh:=hm.hi;simp only at hl hh;obtain ⟨a1,a2⟩:=Bp hm.pl h;obtain ⟨b1,b2⟩:=a2.cut;have b3:=Hp hm.tl b1;simp only [Cn] at b2 b3;obtain ⟨c1,c2⟩:=Cu (n:=(ss.length:Int)) (a:=0) (b:=hi) ⟨by omega,by omega⟩ (by omega) hh b2;have d1:=Hp hm.ts c2;simp only at d1;unfold Rd.mp;have e1:lo.toNat=ls.length:=by omega
 simp only [a1,e1,b3,c1,Int.toNat_natCast,d1,Wr.mp,List.length_cons,List.length_append,Cn];rw [show p+1+2 * ls.length+1+2 * ss.length=p+(2 * ls.length+(2 * ss.length+1)+1) by omega]
theorem V4 {s:List UInt8}{p:Nat}{lo hi:Int}{l:List Rd.Mp} (h255:hi≤255) (h64:l.length≤64) (hl:∀ c∈l,MpB lo hi c) (h:Lies s p (Wr.mps l)):Rd.mps s lo hi ⟨p,false⟩=(l,⟨p+(Wr.mps l).length,false⟩):=by
 obtain ⟨b1,b2⟩:=Cu (n:=(l.length:Int)) (a:=0) (b:=64) ⟨by omega,by omega⟩ (by omega) (by omega) h;unfold Rd.mps;simp only [b1,Int.toNat_natCast];rw [Ef (Rd.mp s lo hi) Wr.mp l (fun t ht q hq=>Xu h255 (hl t ht) hq) _ b2];simp only [Wr.mps,List.length_cons];rw [show p+1+(l.flatMap Wr.mp).length=p+((l.flatMap Wr.mp).length+1) by omega]
theorem Ql (l:List Int):l.map Wr.b=l.flatMap (fun x=>[Wr.b x]):=by
 induction l with
 | nil=>rfl
 | cons x r ih=>rw [List.map_cons,List.flatMap_cons,ih];rfl
theorem Sf {s:List UInt8}{p:Nat}{l:List Int} (h1:1≤l.length) (h2:l.length≤120) (hl:∀ c∈l,By c) (h:Lies s p (Wr.b (l.length:Int) :: l.map Wr.b)):Rd.codes s ⟨p,false⟩=(l,⟨p+1+l.length,false⟩):=by
 obtain ⟨b1,b2⟩:=Cu (n:=(l.length:Int)) (a:=1) (b:=120) ⟨by omega,by omega⟩ (by omega) (by omega) h;have e:=Ql l;rw [e] at b2;unfold Rd.codes;simp only [b1,Int.toNat_natCast];rw [Ef (Rd.nx s) (fun x=>[Wr.b x]) l (fun t ht q hq=>(Bp (hl t ht) hq).1) _ b2,← e,List.length_map]
structure MthB (m:Rd.Mth):Prop where
 cl:By m.cl
 nm:By m.name
 pl:m.params.length≤4
 ps:∀ t∈m.params,TyB t
 rs:TyB m.result
 lo:0≤m.locals∧m.locals≤8
 st:0≤m.stack∧m.stack≤8
 c1:1≤m.code.length
 c2:m.code.length≤120
 cb:∀ x∈m.code,By x
 h4:m.handlers.length≤4
 hb:∀ h∈m.handlers,HndB h
 m6:m.maps.length≤64
 mb:∀ q∈m.maps,MpB m.locals m.stack q
theorem Wk {s:List UInt8}{p:Nat}{m:Rd.Mth} (hm:MthB m) (h:Lies s p (Wr.mth m)):Rd.mth s ⟨p,false⟩=(m,⟨p+(Wr.mth m).length,false⟩):=by
 have hpl:=hm.pl;have hlo:=hm.lo;have hst:=hm.st;obtain ⟨cl,nm,ps,rs,lo,st,cd,hs,mp⟩:=m;simp only at hpl hlo hst;unfold Wr.mth Wr.head at h;simp only [List.append_assoc] at h;obtain ⟨g1,g2⟩:=Bp hm.cl h;obtain ⟨a1,a2⟩:=Bp hm.nm g2;obtain ⟨b1,b2⟩:=Cu (n:=(ps.length:Int)) (a:=0) (b:=4) ⟨by omega,by omega⟩ (by omega) (by omega) a2;obtain ⟨c1,c2⟩:=Lies.cut (a:=Wr.tys ps) b2;have c3:=Hp hm.ps c1;simp only [Cn] at c2 c3;obtain ⟨d1,d2⟩:=Lies.cut (a:=Wr.ty rs) c2;have d3:=Ps hm.rs d1;obtain ⟨e1,e2⟩:=Cu (n:=lo) (a:=0) (b:=8) ⟨by omega,by omega⟩ (by omega) (by omega) d2;obtain ⟨f1,f2⟩:=Cu (n:=st) (a:=0) (b:=8) ⟨by omega,by omega⟩ (by omega) (by omega) e2;obtain ⟨i1,i2⟩:=Lies.cut (a:=Wr.b (cd.length:Int) :: cd.map Wr.b) f2;have i3:=Sf hm.c1 hm.c2 hm.cb i1;obtain ⟨j1,j2⟩:=Lies.cut (a:=Wr.hnds hs) i2;have j3:=Uh hm.h4 hm.hb j1;have k3:=V4 (hi:=st) (by omega) hm.m6 hm.mb j2;simp only [Wr.ty,List.length_cons,List.length_nil,List.length_map] at e1 f1 i3 j3 k3 d3;unfold Rd.mth;simp only [g1,a1,b1,Int.toNat_natCast,c3,d3,e1,f1,i3];rw [show p+1+1+1+2 * ps.length+2+1+1+1+cd.length=p+1+1+1+2 * ps.length+(0+1+1)+1+1+(cd.length+1) by omega,j3];simp only;rw [k3];simp only [Wr.mth,Wr.head,List.length_append,List.length_cons,List.length_nil,Cn,Wr.ty,List.length_map]
 congr 2
 omega
structure FilB (f:Rd.Fil):Prop where
 c6:f.classes.length≤6
 cb:∀ c∈f.classes,ClsB c
 m1:1≤f.methods.length
 m6:f.methods.length≤6
 mb:∀ m∈f.methods,MthB m
theorem Vv {f:Rd.Fil} (hf:FilB f):Rd.fil (Wr.fil f) ⟨0,false⟩=(f,⟨(Wr.fil f).length,false⟩):=by
 obtain ⟨s,hs⟩:∃ s,s=Wr.fil f:=⟨_,rfl⟩;have h:Lies s 0 (Wr.fil f):=⟨[],by rw [hs];simp⟩;have hL:s.length=(Wr.fil f).length:=by rw [hs]
 rw [← hs];clear hs;obtain ⟨cs,ms⟩:=f;have h6:=hf.c6;have m1:=hf.m1;have m6:=hf.m6;simp only at h6 m1 m6;unfold Wr.fil Wr.front at h;simp only [List.append_assoc] at h;obtain ⟨a1,a2⟩:=Bp (n:=83) ⟨by omega,by omega⟩ h;obtain ⟨b1,b2⟩:=Bp (n:=77) ⟨by omega,by omega⟩ a2;obtain ⟨c1,c2⟩:=Cu (n:=(cs.length:Int)) (a:=0) (b:=6) ⟨by omega,by omega⟩ (by omega) (by omega) b2;obtain ⟨d1,d2⟩:=Lies.cut (a:=cs.flatMap Wr.cls) c2;have d3:=Ef (Rd.cls s) Wr.cls cs (fun c hc q hq=>Vj (hf.cb c hc) hq) _ d1;obtain ⟨e1,e2⟩:=Cu (n:=(ms.length:Int)) (a:=1) (b:=6) ⟨by omega,by omega⟩ (by omega) (by omega) d2;have f3:=Ef (Rd.mth s) Wr.mth ms (fun m hm q hq=>Wk (hf.mb m hm) hq) _ e2;unfold Rd.fil;have x1:Rd.ex s 83 ⟨0,false⟩=⟨0+1,false⟩:=by unfold Rd.ex;rw [a1,if_pos rfl]
 have x2:Rd.ex s 77 ⟨0+1,false⟩=⟨0+1+1,false⟩:=by unfold Rd.ex;rw [b1,if_pos rfl]
 simp only [x1,x2,c1,Int.toNat_natCast,d3,e1,f3];rw [hL];simp only [Wr.fil,Wr.front,List.length_append,List.length_cons,List.length_nil]
theorem Is {α:Type}{f:Rd.St→α × Rd.St}{P:α→Prop} (h:∀ t,P (f t).1):∀ (n:Nat) (t:Rd.St),∀ x∈(Rd.rep f n t).1,P x
 | 0,_,x,hx=>by simp [Rd.rep] at hx
 | n+1,t,x,hx=>by
  unfold Rd.rep at hx;simp only at hx;rcases List.mem_append.1 hx with hx | hx
  ·exact Is h n t x hx
  ·rw [List.mem_singleton.1 hx];exact h _
theorem Yb (s:List UInt8) (t:Rd.St):TyB (Rd.ty s t).1:=⟨Rd.nx_bd s _,Rd.nx_bd s _⟩
theorem M6 (s:List UInt8) (n:Nat) (t:Rd.St):∀ x∈(Rd.tys s n t).1,TyB x:=Is (Yb s) n t
theorem Yz (s:List UInt8) (t:Rd.St):ClsB (Rd.cls s t).1:=by
 refine ⟨Rd.nx_bd s _,?_,M6 s _ _⟩;simp only [Rd.cls,Rd.tys,Rd.rep_len];have:=Rd.cn_bd s 0 4 (Rd.nx s t).2 (by omega);omega
theorem Yw (s:List UInt8) (t:Rd.St):HndB (Rd.hnd s t).1:=⟨Rd.nx_bd s _,Rd.nx_bd s _,Rd.nx_bd s _,Rd.nx_bd s _⟩
theorem Y6 (s:List UInt8) (L H:Int) (hL:0≤L) (hH:0≤H) (t:Rd.St):MpB L H (Rd.mp s L H t).1:=by
 refine ⟨Rd.nx_bd s _,?_,?_,M6 s _ _,M6 s _ _⟩
 ·simp only [Rd.mp,Rd.tys,Rd.rep_len];omega
 ·simp only [Rd.mp,Rd.tys,Rd.rep_len];have:=Rd.cn_bd s 0 H (Rd.rep (Rd.ty s) L.toNat (Rd.nx s t).2).2 hH;omega
theorem Y4 (s:List UInt8) (t:Rd.St) (h:(Rd.mth s t).2.bad=false):MthB (Rd.mth s t).1:=by
 have hc:=Nr s t h;unfold Rd.mth at hc ⊢;simp only at hc ⊢;refine ⟨Rd.nx_bd s _,Rd.nx_bd s _,?_,M6 s _ _,Yb s _,Rd.cn_bd s _ _ _ (by omega),Rd.cn_bd s _ _ _ (by omega),hc,?_,Is (Rd.nx_bd s) _ _,?_,Is (Yw s) _ _,?_,Is (Y6 s _ _ (Rd.cn_bd s _ _ _ (by omega)).1 (Rd.cn_bd s _ _ _ (by omega)).1) _ _⟩
 ·simp only [Rd.tys,Rd.rep_len];have:=Rd.cn_bd s 0 4 (Rd.nx s (Rd.nx s t).2).2 (by omega);omega
 ·simp only [Rd.codes,Rd.rep_len];have h1:=Rd.cn_bd s 1 120;generalize (Rd.cn s 0 8 _).2=u;have:=h1 u (by omega);omega
 ·simp only [Rd.hnds,Rd.rep_len];have h1:=Rd.cn_bd s 0 4;generalize (Rd.codes s _).2=u;have:=h1 u (by omega);omega
 ·simp only [Rd.mps,Rd.rep_len];have h1:=Rd.cn_bd s 0 64;generalize (Rd.hnds s _).2=u;have:=h1 u (by omega);omega
theorem Ww (s:List UInt8):∀ (n:Nat) (t:Rd.St),(Rd.rep (Rd.mth s) n t).2.bad=false→∀ m∈(Rd.rep (Rd.mth s) n t).1,MthB m
 | 0,_,_,m,hm=>by simp [Rd.rep] at hm
 | n+1,t,h,m,hm=>by
  unfold Rd.rep at h hm;simp only at h hm;rcases List.mem_append.1 hm with hm | hm
  ·refine Ww s n t ?_ m hm;cases hc:(Rd.rep (Rd.mth s) n t).2.bad with
   | false=>rfl
   | true=>rw [Lc s _ hc] at h;cases h
  ·rw [List.mem_singleton.1 hm];exact Y4 s _ h
theorem X8 (s:List UInt8) (a b:Int) (t:Rd.St) (h:(Rd.cn s a b t).2.bad=false):a≤(Rd.cn s a b t).1:=by
 unfold Rd.cn at h ⊢
 split at h
 ·cases h
 ·split at h
  ·cases h
  ·next h1 h2=>rw [if_neg h1,if_neg h2];omega
theorem Yq (s:List UInt8) (h:(Rd.read s).2=0):FilB (Rd.read s).1:=by
 unfold Rd.read at h ⊢;by_cases h1:15000 < s.length
 ·rw [if_pos h1] at h;simp at h
 rw [if_neg h1] at h ⊢;by_cases h2:(Rd.fil s ⟨0,false⟩).2.bad=true∨(Rd.fil s ⟨0,false⟩).2.pos ≠ s.length
 ·rw [if_pos h2] at h;simp at h
 rw [if_neg h2];have hb:(Rd.fil s ⟨0,false⟩).2.bad=false:=by
  cases hb:(Rd.fil s ⟨0,false⟩).2.bad with
  | false=>rfl
  | true=>exact absurd (.inl hb) h2
 unfold Rd.fil at hb ⊢;simp only at hb ⊢;generalize Rd.ex s 77 (Rd.ex s 83 ⟨0,false⟩)=u at *;have c1:=Rd.cn_bd s 0 6 u (by omega);generalize Rd.cn s 0 6 u=n at *;have hC:∀ c∈(Rd.rep (Rd.cls s) n.1.toNat n.2).1,ClsB c:=Is (Yz s) _ _;have hl:(Rd.rep (Rd.cls s) n.1.toNat n.2).1.length=n.1.toNat:=Rd.rep_len _ _ _;generalize Rd.rep (Rd.cls s) n.1.toNat n.2=cs at *;have m1:=Rd.cn_bd s 1 6 cs.2 (by omega);have m2:=X8 s 1 6 cs.2;generalize Rd.cn s 1 6 cs.2=m at *;have m3:m.2.bad=false:=by
  cases hc:m.2.bad with
  | false=>rfl
  | true=>rw [Ek (Lc s) _ _ hc] at hb;cases hb
 have m4:=m2 m3;refine ⟨by simp only;omega,hC,?_,?_,Ww s _ _ hb⟩
 ·simp only [Rd.rep_len];omega
 ·simp only [Rd.rep_len];omega
theorem Wy {f:Rd.Fil} (hf:FilB f) (hl:(Wr.fil f).length≤15000):Rd.read (Wr.fil f)=(f,0):=by
 unfold Rd.read;rw [if_neg (by omega),Vv hf,if_neg (by simp)]
theorem Im (c:List Int):∀ (k p0:Nat),c.length≤p0+k→∀ (d r:List Nat) (p:Nat),Cd.starts c k p0=d ++ p :: r→p+Cd.wd (c.getD p 0) < c.length→∃ r',r=(p+Cd.wd (c.getD p 0)) :: r'
 | 0,p0,_,d,r,p,h,_=>by simp [Cd.starts] at h
 | k+1,p0,hk,d,r,p,h,hl=>by
  unfold Cd.starts at h;by_cases hp:p0 < c.length
  ·rw [if_pos hp] at h;have hw:=Cd.wd_bd (c.getD p0 0);cases d with
   | nil =>
    simp only [List.nil_append,List.cons.injEq] at h;obtain ⟨rfl,rfl⟩:=h;obtain ⟨j,rfl⟩:∃ j,k=j+1:=⟨k - 1,by omega⟩;unfold Cd.starts;rw [if_pos hl];exact ⟨_,rfl⟩
   | cons e d =>
    simp only [List.cons_append,List.cons.injEq] at h;exact Im c k _ (by omega) d r p h.2 hl
  ·rw [if_neg hp] at h;simp at h
theorem Oq {c:List Int}{d r:List Nat}{p:Nat} (h:Cd.places c=d ++ p :: r) (hl:p+Cd.wd (c.getD p 0) < c.length):∃ r',r=(p+Cd.wd (c.getD p 0)) :: r':=Im c c.length 0 (by omega) d r p h hl
theorem Do {T:List Int}{mp:Int→Option Ck.Fr}{p:Int}{lo:List (Int × Int)}:∀ {hs:List Rd.Hnd},Ck.handlers T mp p lo hs=0↔∀ h∈hs,Pk.covers h p=true→∃ z,mp h.target=some z∧Ck.frameFits T ⟨lo,[(3,h.cl)]⟩ z=true
 | []=>by simp [Ck.handlers]
 | h :: r=>by
  have ih:=Do (T:=T) (mp:=mp) (p:=p) (lo:=lo) (hs:=r);unfold Ck.handlers;have hcov:Pk.covers h p=true↔h.frm≤p∧p < h.til:=by unfold Pk.covers;simp
  by_cases h1:p < h.frm
  ·rw [if_pos h1,ih]
   constructor
   ·intro g x hx hc;rcases List.mem_cons.1 hx with rfl | hx
    ·have:=(hcov.1 hc).1;omega
    ·exact g x hx hc
   ·exact fun g x hx=>g x (by simp [hx])
  rw [if_neg h1];by_cases h2:h.til≤p
  ·rw [if_pos h2,ih]
   constructor
   ·intro g x hx hc;rcases List.mem_cons.1 hx with rfl | hx
    ·have:=(hcov.1 hc).2;omega
    ·exact g x hx hc
   ·exact fun g x hx=>g x (by simp [hx])
  rw [if_neg h2];have hc:Pk.covers h p=true:=hcov.2 ⟨by omega,by omega⟩;cases hz:mp h.target with
  | none =>
   simp only [Option.isSome_none,if_true]
   constructor
   ·intro g;omega
   ·intro g;obtain ⟨z,e,_⟩:=g h (by simp) hc;rw [hz] at e;cases e
  | some z =>
   rw [if_neg (show ¬ (some z).isSome=false by simp),show Ck.orNone (some z)=z from rfl];by_cases hf:Ck.frameFits T ⟨lo,[(3,h.cl)]⟩ z=true
   ·rw [if_neg (show ¬ Ck.frameFits T ⟨lo,[(3,h.cl)]⟩ z=false by rw [hf];simp),ih]
    constructor
    ·intro g x hx hcx;rcases List.mem_cons.1 hx with rfl | hx
     ·exact ⟨z,hz,hf⟩
     ·exact g x hx hcx
    ·exact fun g x hx=>g x (by simp [hx])
   ·rw [if_pos (show Ck.frameFits T ⟨lo,[(3,h.cl)]⟩ z=false by simpa using hf)]
    constructor
    ·intro g;omega
    ·intro g;obtain ⟨z',e,e2⟩:=g h (by simp) hc;rw [hz] at e;cases e;exact absurd e2 hf
theorem Mg {T:List Int}{mp:Int→Option Ck.Fr}{H:Int}{R:Option Ck.Fr}{op n nxt len:Int}:Ck.look T mp H R op n nxt len=0 ↔
  H=0∧∃ y,R=some y∧(Ck.jumps op=true→∃ z,mp n=some z∧Ck.frameFits T y z=true)∧(Ck.goes op=true→nxt < len∧∀ z,mp nxt=some z→Ck.frameFits T y z=true):=by
 unfold Ck.look;by_cases h1:H=0
 ·rw [if_neg (fun g=>g h1)];cases R with
  | none=>simp
  | some y =>
   rw [if_neg (show ¬ (some y).isSome=false by simp),show Ck.orNone (some y)=y from rfl]
   constructor
   ·intro h;refine ⟨h1,y,rfl,?_,?_⟩
    ·intro hj;by_cases h2:(mp n).isSome=false
     ·rw [if_pos ⟨hj,h2⟩] at h;omega
     rw [if_neg (fun g=>h2 g.2)] at h;cases hz:mp n with
     | none=>rw [hz] at h2;simp at h2
     | some z =>
      rw [hz,show Ck.orNone (some z)=z from rfl] at h;by_cases h3:Ck.frameFits T y z=false
      ·rw [if_pos ⟨hj,h3⟩] at h;omega
      ·exact ⟨z,rfl,by simpa using h3⟩
    ·intro hg
     split at h
     ·omega
     split at h
     ·omega
     rw [if_neg (by rw [hg];simp)] at h
     split at h
     ·omega
     ·next hl =>
      refine ⟨by omega,fun z hz=>?_⟩;rw [hz,show Ck.orNone (some z)=z from rfl] at h;by_cases h3:Ck.frameFits T y z=false
      ·rw [if_pos ⟨rfl,h3⟩] at h;omega
      ·simpa using h3
   ·rintro ⟨-,y',e,hj,hg⟩;cases e;rw [if_neg (by
     rintro ⟨a,b⟩;obtain ⟨z,hz,_⟩:=hj a;rw [hz] at b;simp at b),if_neg (by
     rintro ⟨a,b⟩;obtain ⟨z,hz,hf⟩:=hj a;rw [hz,show Ck.orNone (some z)=z from rfl,hf] at b;cases b)]
    by_cases hgo:Ck.goes op=true
    ·obtain ⟨hl,hz⟩:=hg hgo;rw [if_neg (by rw [hgo];simp),if_neg (by omega),if_neg (by
      rintro ⟨a,b⟩;obtain ⟨z,e⟩:=Option.isSome_iff_exists.1 a;rw [e,show Ck.orNone (some z)=z from rfl,hz z e] at b;cases b)]
    ·rw [if_pos (by simpa using hgo)]
 ·rw [if_pos h1]
  constructor
  ·intro h;exact absurd h h1
  ·intro h;exact absurd h.1 h1
theorem Fu {ah:Nat→Option Ck.Fr}{lk:Nat→Ck.Fr→Int}:∀ {l:List Nat},(Ck.lookAll ah lk l).1=0↔∀ p∈l,∀ x,ah p=some x→lk p x=0
 | []=>by simp [Ck.lookAll]
 | p :: r=>by
  have ih:=Fu (ah:=ah) (lk:=lk) (l:=r);unfold Ck.lookAll;cases hp:ah p with
  | none =>
   simp only;rw [ih]
   constructor
   ·intro g q hq x hx;rcases List.mem_cons.1 hq with rfl | hq
    ·rw [hp] at hx;cases hx
    ·exact g q hq x hx
   ·exact fun g q hq=>g q (by simp [hq])
  | some x =>
   simp only;by_cases h:lk p x=0
   ·rw [if_neg (fun g=>g h),ih]
    constructor
    ·intro g q hq y hy;rcases List.mem_cons.1 hq with rfl | hq
     ·rw [hp] at hy;cases hy;exact h
     ·exact g q hq y hy
    ·exact fun g q hq=>g q (by simp [hq])
   ·rw [if_pos h]
    constructor
    ·intro g;exact absurd g h
    ·intro g;exact absurd (g p (by simp) x hp) h
theorem Ex {cs:List Rd.Cls}{ms:List Rd.Mth}{m:Rd.Mth}{d r:List Nat}{q:Nat} (h:Cd.places m.code=d ++ q :: r) :
  Ck.mAhead cs ms m q=(Ck.mMap m (q:Int)).or (d.foldl (fun o p=>Ck.step (fun p=>Ck.mMap m (p:Int)) (Ck.mRule cs ms m) (fun p=>Ck.goes (m.code.getD p 0)) p o) (some (Ck.mStart m))):=by
 have hl:=Mv m.code;unfold Ck.mAhead;rw [h] at hl ⊢;exact Id _ _ _ q r d _ (fun p hp=>(List.pairwise_append.1 hl).2.2 p hp q (by simp))
theorem Iz {cs:List Rd.Cls}{ms:List Rd.Mth}{m:Rd.Mth} (hc:0 < m.code.length):Ck.mAhead cs ms m 0=(Ck.mMap m 0).or (some (Ck.mStart m)):=by
 obtain ⟨r,hr⟩:∃ r,Cd.places m.code=[] ++ 0 :: r:=by
  unfold Cd.places;cases hn:m.code.length with
  | zero=>omega
  | succ n =>
   unfold Cd.starts;rw [if_pos hc];exact ⟨_,rfl⟩
 rw [Ex hr];rfl
theorem Jl {cs:List Rd.Cls}{ms:List Rd.Mth}{m:Rd.Mth}{p:Nat} (hp:p∈Cd.places m.code) (hl:p+Cd.wd (m.code.getD p 0) < m.code.length) :
  Ck.mAhead cs ms m (p+Cd.wd (m.code.getD p 0))=(Ck.mMap m ((p+Cd.wd (m.code.getD p 0):Nat):Int)).or ((Ck.mAhead cs ms m p).bind fun x=>(Ck.mRule cs ms m p x).bind fun z=>if Ck.goes (m.code.getD p 0)=true then some z else none):=by
 obtain ⟨d,r,h⟩:=List.append_of_mem hp;obtain ⟨r',rfl⟩:=Oq h hl;rw [Ex (d:=d ++ [p]) (r:=r') (by rw [h];simp),Ex h,List.foldl_append];rfl
def Lt.F (cs:List Rd.Cls) (ms:List Rd.Mth) (m:Rd.Mth) (q:Nat):Option Ck.Fr:=if q∈Cd.places m.code then Ck.mAhead cs ms m q else none
theorem Fb {cs:List Rd.Cls}{ms:List Rd.Mth}{m:Rd.Mth}{q:Nat} (h:q∈Cd.places m.code):Lt.F cs ms m q=Ck.mAhead cs ms m q:=if_pos h
theorem Ed {cs:List Rd.Cls}{ms:List Rd.Mth}{m:Rd.Mth}{q:Nat} (h:q∈Cd.places m.code) {z:Ck.Fr} (hz:Ck.mMap m (q:Int)=some z):Ck.mAhead cs ms m q=some z:=by
 obtain ⟨d,r,h⟩:=List.append_of_mem h;rw [Ex h,hz];rfl
theorem J6 {cs:List Rd.Cls}{ms:List Rd.Mth} (k:Fm.Ok cs ms) {m:Rd.Mth} (hm:m∈ms) {q:Nat} (hq:q∈Cd.places m.code) {x:Ck.Fr} (h:Ck.mAhead cs ms m q=some x):Ck.P (Tr.tree cs) m x:=by
 have g:=k.mt m hm;obtain ⟨d,r,hs⟩:=List.append_of_mem hq;rw [Ex hs] at h;have key:∀ (d:List Nat) (o:Option Ck.Fr),(∀ p∈d,p∈Cd.places m.code)→(∀ y,o=some y→Ck.P (Tr.tree cs) m y)→∀ y,d.foldl (fun o p=>Ck.step (fun p=>Ck.mMap m (p:Int)) (Ck.mRule cs ms m) (fun p=>Ck.goes (m.code.getD p 0)) p o) o=some y→Ck.P (Tr.tree cs) m y:=by
  intro d
  induction d with
  | nil=>intro o _ ho y hy;exact ho y hy
  | cons p d ih =>
   intro o hd ho y hy;refine ih _ (fun p hp=>hd p (by simp [hp])) (fun z hz=>?_) y hy;unfold Ck.step at hz;simp only at hz;cases e:(Ck.mMap m (p:Int)).or o with
   | none=>rw [e] at hz;cases hz
   | some u =>
    rw [e] at hz;simp only [Option.bind_some] at hz;have hu:Ck.P (Tr.tree cs) m u:=by
     cases e2:Ck.mMap m (p:Int) with
     | none=>rw [e2] at e;exact ho u e
     | some v=>rw [e2] at e;cases e;exact Ff g e2
    cases e3:Ck.mRule cs ms m p u with
    | none=>rw [e3] at hz;cases hz
    | some v =>
     rw [e3] at hz;simp only [Option.bind_some] at hz
     split at hz
     ·cases hz;exact Ew k hm (hd p (by simp)) hu e3
     ·cases hz
 cases e2:Ck.mMap m (q:Int) with
 | none =>
  rw [e2] at h;exact key d _ (fun p hp=>by rw [hs];simp [hp]) (fun y hy=>by cases hy;exact Fo g) x h
 | some v=>rw [e2] at h;cases h;exact Ff g e2
theorem Ie {cs:List Rd.Cls}{ms:List Rd.Mth}{m:Rd.Mth}:(Ck.mChecked cs ms m).1=0↔(∀ z,Ck.mMap m 0=some z→Ck.frameFits (Tr.tree cs) (Ck.mStart m) z=true)∧∀ p∈Cd.places m.code,∀ x,Ck.mAhead cs ms m p=some x→Ck.mLook cs ms m p x=0:=by
 unfold Ck.mChecked Ck.checked;cases hz:Ck.mMap m 0 with
 | none =>
  rw [if_neg (by simp),Fu]
  simp
 | some z =>
  rw [show Ck.orNone (some z)=z from rfl];by_cases hf:Ck.frameFits (Tr.tree cs) (Ck.mStart m) z=true
  ·rw [if_neg (fun g=>by rw [hf] at g;cases g.2),Fu]
   constructor
   ·intro h;exact ⟨fun z' e=>by cases e;exact hf,h⟩
   ·intro h;exact h.2
  ·rw [if_pos ⟨rfl,by simpa using hf⟩]
   constructor
   ·intro h;simp at h
   ·intro h;exact absurd (h.1 z rfl) hf
theorem checked_sol {cs:List Rd.Cls}{ms:List Rd.Mth} (k:Fm.Ok cs ms) {m:Rd.Mth} (hm:m∈ms) (hc:0 < m.code.length) (h:(Ck.mChecked cs ms m).1=0) :
  Ls.Sol (Ls.env cs ms m) (Lt.F cs ms m)∧∀ p∈Cd.places m.code,Lt.F cs ms m p ≠ none→∀ q,Ls.Aim (Ls.env cs ms m) p q→∃ z,Ck.mMap m (q:Int)=some z∧Lt.F cs ms m q=some z:=by
 have g:=k.mt m hm;have gE:=Df k hm hc;have hT:Tr.Ok (Tr.tree cs):=k.ok;obtain ⟨h0,h1⟩:=Ie.1 h;have fit:∀ {x y:Ck.Fr},Ck.P (Tr.tree cs) m x→Ck.P (Tr.tree cs) m y→Ck.frameFits (Tr.tree cs) x y=true→Ls.LeF (Tr.tree cs) x y:=fun hx hy hf=>Ha.1 (by rw [← Eb hT (D9 hx) (D9 hy)];exact hf);have lk:∀ p∈Cd.places m.code,∀ x,Ck.mAhead cs ms m p=some x→_:=fun p hp x hx=>Mg.1 (show Ck.look _ _ _ _ _ _ _ _=0 from h1 p hp x hx);have inv:∀ p x,Lt.F cs ms m p=some x→Ck.P (Tr.tree cs) m x:=by
  intro p x hx;unfold Lt.F at hx;by_cases hp:p∈Cd.places m.code
  ·rw [if_pos hp] at hx;exact J6 k hm hp hx
  ·rw [if_neg hp] at hx;cases hx
 have hI:∀ {h':Rd.Hnd}{x:Ck.Fr}{z:Ck.Fr},h'∈m.handlers→Ck.P (Tr.tree cs) m x→Ck.P (Tr.tree cs) m z→Ck.frameFits (Tr.tree cs) ⟨x.locals,[(3,h'.cl)]⟩ z=true→Ls.LeF (Tr.tree cs) (Ls.caught x h') z:=by
  intro h' x z hh hx hz hf;refine Ha.1 ?_;rw [← Eb hT ?_ (D9 hz)]
  ·exact hf
  ·refine ⟨fun t ht=>(hx.tl t ht).1,fun t ht=>?_⟩;have:t=(3,h'.cl):=by simpa [Ls.caught] using ht
   rw [this];exact (gE.hnd h' hh).2.2.2
 refine ⟨⟨inv,?_,?_⟩,?_⟩
 ·have hz:=Jr hc;rw [Fb hz,Iz hc];cases e:Ck.mMap m 0 with
  | none=>exact ⟨_,rfl,.refl _ _⟩
  | some z=>exact ⟨z,rfl,fit (Fo g) (Ff g e) (h0 z e)⟩
 ·intro p hp x hx;have hp':p∈Cd.places m.code:=hp;have hP:=inv p x hx;rw [Fb hp'] at hx;obtain ⟨a1,y,a2,a3,a4⟩:=lk p hp' x hx;have hy:=Ew k hm hp' hP a2;refine ⟨⟨y,a2⟩,?_⟩;intro q u b hg;cases hg using Ls.Goes.el with
  | hnd h' hh hcov =>
   obtain ⟨z,e1,e2⟩:=Do.1 a1 h' hh hcov;have gh:=gE.hnd h' hh;have eq:((h'.target.toNat:Nat):Int)=h'.target:=by omega
   have hz:=Ff g e1;have hl:=hI hh hP hz e2;refine ⟨gh.1,gh.2.1,?_,⟨z,?_,hl⟩,fun _=>trivial⟩
   ·have:=hl.st.len;have:=hz.hi;show ((Ls.caught x h').stack.length:Int)≤m.stack;omega
   ·rw [Fb gh.2.2.1];exact Ed gh.2.2.1 (by rw [eq];exact e1)
  | jmp u hu hj =>
   have:u=y:=by have:=hu.symm.trans a2;cases this;rfl
   subst this;obtain ⟨z,e1,e2⟩:=a3 hj;have gt:=gE.tgt p hp hj;have eq:((((Ls.env cs ms m).ar p).toNat:Nat):Int)=(Ls.env cs ms m).ar p:=by omega
   have hz:=Ff g e1;refine ⟨gt.1,gt.2.1,hy.hi,⟨z,?_,fit hy hz e2⟩,fun _=>trivial⟩;rw [Fb gt.2.2];exact Ed gt.2.2 (by rw [eq];exact e1)
  | nxt u hu hgo =>
   have:u=y:=by have:=hu.symm.trans a2;cases this;rfl
   subst this;obtain ⟨e1,e2⟩:=a4 hgo;have hn:p+Cd.wd (m.code.getD p 0) < m.code.length:=by omega
   have eq:((Ls.env cs ms m).nx p).toNat=p+Cd.wd (m.code.getD p 0):=by
    show ((p:Int)+(Cd.wd (m.code.getD p 0):Int)).toNat=_;omega
   have hpn:=Jo hp' hn;have hen:(Ls.env cs ms m).nx p=((p+Cd.wd (m.code.getD p 0):Nat):Int):=by
    show (p:Int)+(Cd.wd (m.code.getD p 0):Int)=_;omega
   have hgo':Ck.goes (m.code.getD p 0)=true:=hgo;refine ⟨by rw [hen];omega,by rw [hen];exact e1,hy.hi,?_,fun h=>(by cases h)⟩;rw [eq,Fb hpn,Jl hp' hn,hx];simp only [Option.bind_some];have a2':Ck.mRule cs ms m p x=some u:=a2;rw [a2',Option.bind_some,if_pos hgo'];cases e:Ck.mMap m ((p+Cd.wd (m.code.getD p 0):Nat):Int) with
   | none=>exact ⟨u,rfl,.refl _ _⟩
   | some z=>exact ⟨z,rfl,fit hy (Ff g e) (e2 z e)⟩
 ·intro p hp hne q ha;cases hx:Lt.F cs ms m p with
  | none=>exact absurd hx hne
  | some x =>
   rw [Fb hp] at hx;obtain ⟨a1,y,a2,a3,a4⟩:=lk p hp x hx;rcases ha with ⟨h',hh,hcov,rfl⟩ | ⟨hj,rfl⟩
   ·obtain ⟨z,e1,e2⟩:=Do.1 a1 h' hh hcov;have gh:=gE.hnd h' hh;have eq:((h'.target.toNat:Nat):Int)=h'.target:=by omega
    refine ⟨z,by rw [eq];exact e1,?_⟩;rw [Fb gh.2.2.1];exact Ed gh.2.2.1 (by rw [eq];exact e1)
   ·obtain ⟨z,e1,e2⟩:=a3 hj;have gt:=gE.tgt p hp hj;have eq:((((Ls.env cs ms m).ar p).toNat:Nat):Int)=(Ls.env cs ms m).ar p:=by omega
    refine ⟨z,by rw [eq];exact e1,?_⟩;rw [Fb gt.2.2];exact Ed gt.2.2 (by rw [eq];exact e1)
theorem Ix (c:List Int):∀ (k p0 q:Nat),q∈Cd.starts c k p0→q=p0∨∃ p∈Cd.starts c k p0,q=p+Cd.wd (c.getD p 0)
 | 0,p0,q,h=>by simp [Cd.starts] at h
 | k+1,p0,q,h=>by
  unfold Cd.starts at h ⊢;by_cases hp:p0 < c.length
  ·rw [if_pos hp] at h ⊢;rcases List.mem_cons.1 h with rfl | h
   ·exact .inl rfl
   ·rcases Ix c k _ q h with e | ⟨p,h1,h2⟩
    ·exact .inr ⟨p0,by simp,e⟩
    ·exact .inr ⟨p,List.mem_cons_of_mem _ h1,h2⟩
  ·rw [if_neg hp] at h;simp at h
theorem O9 {cs:List Rd.Cls}{ms:List Rd.Mth} (k:Fm.Ok cs ms) {m:Rd.Mth} (hm:m∈ms) (hc:0 < m.code.length) {F:Nat→Option Ck.Fr} (hF:Ls.Sol (Ls.env cs ms m) F)
  (hM:∀ (q:Nat) z,Ck.mMap m (q:Int)=some z→F q=some z) (hA:∀ p∈Cd.places m.code,F p ≠ none→∀ q,Ls.Aim (Ls.env cs ms m) p q→∃ z,Ck.mMap m (q:Int)=some z):(Ck.mChecked cs ms m).1=0:=by
 have g:=k.mt m hm;have gE:=Df k hm hc;have hT:Tr.Ok (Tr.tree cs):=k.ok;have fit:∀ {x y:Ck.Fr},Ck.argF (Tr.tree cs) x→Ck.argF (Tr.tree cs) y→Ls.LeF (Tr.tree cs) x y→Ck.frameFits (Tr.tree cs) x y=true:=fun hx hy h=>by rw [Eb hT hx hy];exact Ha.2 h
 have aI:∀ {p x},F p=some x→Ck.argF (Tr.tree cs) x:=fun h=>(hF.inv _ _ h).arg;have key:∀ p,p∈Cd.places m.code→∀ x,Ck.mAhead cs ms m p=some x→∃ z,F p=some z∧Ls.LeF (Tr.tree cs) x z:=by
  intro p
  induction p using Nat.strongRecOn with
  | _ p ih =>
   intro hp x hx;cases e:Ck.mMap m (p:Int) with
   | some z =>
    rw [Ed hp e] at hx;cases hx;exact ⟨x,hM p x e,.refl _ _⟩
   | none =>
    rcases Ix m.code _ 0 p hp with rfl | ⟨p',h1,h2⟩
    ·rw [Iz hc,show Ck.mMap m 0=none from e] at hx;cases hx;exact hF.x0
    ·have hp':p'∈Cd.places m.code:=h1;have hl:=H9 hp;have hw:=Cd.wd_bd (m.code.getD p' 0);rw [h2] at hl hx e ⊢;rw [Jl hp' hl,e] at hx;cases ea:Ck.mAhead cs ms m p' with
     | none=>rw [ea] at hx;cases hx
     | some x' =>
      rw [ea] at hx;simp only [Option.bind_some,Option.or] at hx;cases er:Ck.mRule cs ms m p' x' with
      | none=>rw [er] at hx;cases hx
      | some u =>
       rw [er] at hx;simp only [Option.bind_some] at hx
       split at hx
       ·next hgo =>
        cases hx;obtain ⟨z',hz',hle⟩:=ih p' (by omega) hp' x' ea;have hPx:=J6 k hm hp' ea;have hPz:=hF.inv _ _ hz';have sat:=hF.sat p' hp' z' hz';obtain ⟨y',hy'⟩:=sat.rl;obtain ⟨u',hu',hle2⟩:=gE.mono p' hp' x' z' y' hPx hPz hle hy';have:u'=x:=by have:=hu'.symm.trans er;cases this;rfl
        subst this;obtain ⟨_,_,_,⟨v,hv,hle3⟩,_⟩:=sat.go _ _ _ (.nxt y' hy' hgo);have en:((Ls.env cs ms m).nx p').toNat=p'+Cd.wd (m.code.getD p' 0):=by
         show ((p':Int)+(Cd.wd (m.code.getD p' 0):Int)).toNat=_;omega
        rw [en] at hv;exact ⟨v,hv,hle2.trans gE hle3 (D9 (Ew k hm hp' hPx er)) (gE.rl p' hp' z' y' hPz hy').arg (aI hv)⟩
       ·cases hx
 refine Ie.2 ⟨fun z hz=>?_,fun p hp x hx=>?_⟩
 ·obtain ⟨y,hy,hle⟩:=hF.x0;have:=hM 0 z hz;rw [this] at hy;cases hy;exact fit (D9 (Fo g)) (aI this) hle
 ·obtain ⟨z,hz,hle⟩:=key p hp x hx;have hPx:=J6 k hm hp hx;have hPz:=hF.inv _ _ hz;have sat:=hF.sat p hp z hz;obtain ⟨y,hy⟩:=sat.rl;obtain ⟨u,hu,hle2⟩:=gE.mono p hp x z y hPx hPz hle hy;have aU:=D9 (Ew k hm hp hPx hu);have aY:=(gE.rl p hp z y hPz hy).arg;have hne:F p ≠ none:=by rw [hz];simp
  refine Mg.2 ⟨Do.2 fun h' hh hcov=>?_,u,hu,fun hj=>?_,fun hgo=>?_⟩
  ·have gh:=gE.hnd h' hh;have eq:((h'.target.toNat:Nat):Int)=h'.target:=by omega
   obtain ⟨_,_,_,⟨v,hv,hle3⟩,_⟩:=sat.go _ _ _ (.hnd h' hh hcov);obtain ⟨z2,h2⟩:=hA p hp hne _ (.inl ⟨h',hh,hcov,rfl⟩);have h3:=hM _ _ h2;rw [hv] at h3;cases h3;rw [eq] at h2;have aC:∀ {w:Ck.Fr},Ck.P (Tr.tree cs) m w→Ck.argF (Tr.tree cs) (Ls.caught w h'):=fun hw=>⟨fun t ht=>(hw.tl t ht).1,fun t ht=>by
    have:t=(3,h'.cl):=by simpa [Ls.caught] using ht
    rw [this];exact gh.2.2.2⟩
   refine ⟨v,h2,fit (aC hPx) (aI hv) ?_⟩;exact Ls.LeF.trans gE (y:=Ls.caught z h') ⟨hle.lo,.refl _ _⟩ hle3 (aC hPx) (aC hPz) (aI hv)
  ·have gt:=gE.tgt p hp hj;have eq:((((Ls.env cs ms m).ar p).toNat:Nat):Int)=(Ls.env cs ms m).ar p:=by omega
   obtain ⟨_,_,_,⟨v,hv,hle3⟩,_⟩:=sat.go _ _ _ (.jmp y hy hj);obtain ⟨z2,h2⟩:=hA p hp hne _ (.inr ⟨hj,rfl⟩);have h3:=hM _ _ h2;rw [hv] at h3;cases h3;rw [eq] at h2;exact ⟨v,h2,fit aU (aI hv) (hle2.trans gE hle3 aU aY (aI hv))⟩
  ·obtain ⟨h0,h1,_,⟨v,hv,hle3⟩,_⟩:=sat.go _ _ _ (.nxt y hy hgo);have en:(Ls.env cs ms m).nx p=((p+Cd.wd (m.code.getD p 0):Nat):Int):=by
    show (p:Int)+(Cd.wd (m.code.getD p 0):Int)=_;omega
   rw [en] at h1 hv;refine ⟨h1,fun z2 h2=>?_⟩;have h3:=hM _ _ h2;rw [Int.toNat_natCast,h3] at hv;cases hv;exact fit aU (aI h3) (hle2.trans gE hle3 aU aY (aI h3))
theorem Nm (T:List Int) (ms:List Rd.Mth) (k:Nat) (m:Rd.Mth):Pf.headBad T (ms.map Rd.Mth.bare) k m.bare=Pf.headBad T ms k m:=by
 have e1:Pf.headMay T m.bare=Pf.headMay T m:=rfl;have e2:Pf.isTwin ((ms.map Rd.Mth.bare).take k) m.bare=Pf.isTwin (ms.take k) m:=by
  unfold Pf.isTwin;rw [← List.map_take,List.any_map];rfl
 have e3:Pf.breaksHeir T (ms.map Rd.Mth.bare) m.bare=Pf.breaksHeir T ms m:=by
  unfold Pf.breaksHeir;rw [List.any_map];rfl
 unfold Pf.headBad;rw [e1,e2,e3]
theorem Hc (T:List Int) (ms:List Rd.Mth):∀ (l:List Rd.Mth) (k:Nat),Pf.heads T (ms.map Rd.Mth.bare) k (l.map Rd.Mth.bare)=Pf.heads T ms k l
 | [],_=>rfl
 | m :: r,k=>by
  rw [List.map_cons,Pf.heads,Pf.heads,Nm,Hc T ms r (k+1)]
theorem H5 (T:List Int) (nf:Int) (ow:List Int):∀ (l:List Rd.Mth) (k:Nat),(Pf.bodies T nf ow k l).1=0↔∀ m∈l,(Pf.body T nf ow m).1=0
 | [],_=>by simp [Pf.bodies]
 | m :: r,k=>by
  have ih:=H5 T nf ow r (k+1);unfold Pf.bodies;by_cases h:(Pf.body T nf ow m).1=0
  ·rw [if_neg (fun g=>g h),ih];simp [h]
  ·rw [if_pos h]
   constructor
   ·intro g;exact absurd g h
   ·intro g;exact absurd (g m (by simp)) h
theorem Mt (T:List Int) (nf:Int) (ow:List Int) (m:Rd.Mth):(Pf.body T nf ow m).1=0↔(Pf.body T nf ow m.bare).1=0∧Cd.mapsBad T m.code 0 (-1) m.maps < 0:=by
 have e:Cd.inMaps T (Cd.insts m.code) 0 0 m.maps=Cd.mapsBad T m.code 0 (-1) m.maps:=Cd.inMaps_eq T m.code m.maps 0 0;have e0:Cd.inMaps T (Cd.insts m.code) 0 0 ([]:List Rd.Mp) = -1:=by rw [Cd.inMaps_eq];rfl
 unfold Pf.body Rd.Mth.bare;simp only;rw [e,e0];unfold Cd.faultOf;by_cases h1:0≤Cd.unread m.code
 ·rw [if_pos h1,if_pos h1];simp
 rw [if_neg h1,if_neg h1]
 split
 ·simp
 ·split
  ·simp
  ·simp only [show ((-1:Int) < 0) by omega,if_true,true_and]
   split
   ·next h=>simp [h]
   ·next h=>simp [h]
theorem Vu {ms r:List Rd.Mth} (h:r.map Rd.Mth.bare=ms.map Rd.Mth.bare):r.map Rd.Mth.cl=ms.map Rd.Mth.cl:=by
 have:=congrArg (List.map Rd.Mth.cl) h
 simpa [List.map_map,Function.comp_def,Rd.Mth.bare] using this
theorem Oh {ms r:List Rd.Mth} (h:r.map Rd.Mth.bare=ms.map Rd.Mth.bare) {m:Rd.Mth} (hm:m∈r):∃ m0∈ms,m0.bare=m.bare:=by
 have:m.bare∈ms.map Rd.Mth.bare:=by rw [← h];exact List.mem_map.2 ⟨m,hm,rfl⟩
 exact List.mem_map.1 this
theorem Sb {cs:List Rd.Cls}{ms r:List Rd.Mth} (hb:r.map Rd.Mth.bare=ms.map Rd.Mth.bare) (h:(Pf.find ⟨cs,ms⟩).1=0) (hm:∀ m∈r,Cd.mapsBad (Tr.tree cs) m.code 0 (-1) m.maps < 0):(Pf.find ⟨cs,r⟩).1=0:=by
 unfold Pf.find at h ⊢;simp only at h ⊢;by_cases h1:(Tr.inCl (Tr.tree cs) 0 cs).1 ≠ 0
 ·rw [if_pos h1] at h;exact absurd h h1
 rw [if_neg h1] at h ⊢;unfold Pf.rest at h ⊢;have eh:Pf.heads (Tr.tree cs) r 0 r=Pf.heads (Tr.tree cs) ms 0 ms:=by rw [← Hc _ r,hb,Hc]
 rw [eh,Vu hb];by_cases h2:0≤Pf.heads (Tr.tree cs) ms 0 ms
 ·rw [if_pos h2] at h;simp at h
 rw [if_neg h2] at h ⊢;rw [H5] at h ⊢;intro m hmr;obtain ⟨m0,h3,h4⟩:=Oh hb hmr;rw [Mt,← h4];exact ⟨((Mt _ _ _ _).1 (h m0 h3)).1,hm m hmr⟩
theorem MthB.remap {m m0:Rd.Mth} (h:MthB m0) (e:m0.bare=m.bare) (h6:m.maps.length≤64) (hm:∀ q∈m.maps,MpB m.locals m.stack q):MthB m:=by
 obtain ⟨cl,nm,ps,rs,lo,st,cd,hs,mp⟩:=m;obtain ⟨cl',nm',ps',rs',lo',st',cd',hs',mp'⟩:=m0;simp only [Rd.Mth.bare,Rd.Mth.mk.injEq,and_true] at e;obtain ⟨rfl,rfl,rfl,rfl,rfl,rfl,rfl,rfl⟩:=e;exact ⟨h.cl,h.nm,h.pl,h.ps,h.rs,h.lo,h.st,h.c1,h.c2,h.cb,h.h4,h.hb,h6,hm⟩
theorem FilB.remap {cs:List Rd.Cls}{ms r:List Rd.Mth} (h:FilB ⟨cs,ms⟩) (hb:r.map Rd.Mth.bare=ms.map Rd.Mth.bare) (hm:∀ m∈r,m.maps.length≤64∧∀ q∈m.maps,MpB m.locals m.stack q):FilB ⟨cs,r⟩:=by
 have hl:r.length=ms.length:=by simpa using congrArg List.length hb
 have h1:=h.m1;have h6:=h.m6;simp only at h1 h6;refine ⟨h.c6,h.cb,by simp only;omega,by simp only;omega,fun m hmr=>?_⟩;obtain ⟨m0,h3,h4⟩:=Oh hb hmr;exact (h.mb m0 h3).remap h4 (hm m hmr).1 (hm m hmr).2
theorem Ss {f:Rd.Fil} (hf:FilB f):(Wr.fil f).length≤15000:=by
 obtain ⟨cs,ms⟩:=f;have h6:=hf.c6;have m6:=hf.m6;simp only at h6 m6;unfold Wr.fil Wr.front;simp only [List.length_append,List.length_cons,List.length_nil];have h1:=Di Wr.cls 10 cs (fun x hx=>by have:=(hf.cb x hx).fl;simp only [Wr.cls,List.length_cons,Cn];omega);have h2:=Di Wr.mth 2330 ms (fun m hm=>by
  have b:=hf.mb m hm;have g1:=b.pl;have g2:=b.c2;have g3:=b.h4;have g4:=b.lo;have g5:=b.st;have g6:=b.m6;have h3:=Di Wr.mp 34 m.maps (fun q hq=>by
   have l1:=(b.mb q hq).lo;have l2:=(b.mb q hq).hi;simp only [Wr.mp,List.length_cons,List.length_append,Cn];omega)
  have h4:=Di Wr.hnd 4 m.handlers (fun q _=>by simp [Wr.hnd]);simp only [Wr.mth,Wr.head,Wr.hnds,Wr.mps,List.length_append,List.length_cons,List.length_nil,Cn,Wr.ty,List.length_map];omega)
 omega
theorem Ig {s:List UInt8} (h:(Rf.formed s).1=0) {r:List Rd.Mth} (hb:r.map Rd.Mth.bare=(Rd.read s).1.methods.map Rd.Mth.bare) (hm:∀ m∈r,m.maps.length≤64∧(∀ q∈m.maps,MpB m.locals m.stack q)∧Cd.mapsBad (Tr.tree (Rd.read s).1.classes) m.code 0 (-1) m.maps < 0) :
  Rd.read (Wr.fil ⟨(Rd.read s).1.classes,r⟩)=(⟨(Rd.read s).1.classes,r⟩,0)∧(Rf.formed (Wr.fil ⟨(Rd.read s).1.classes,r⟩)).1=0:=by
 have hB:=Yq s (Cg h);have hB2:FilB ⟨(Rd.read s).1.classes,r⟩:=FilB.remap (ms:=(Rd.read s).1.methods) hB hb (fun m hmr=>⟨(hm m hmr).1,(hm m hmr).2.1⟩);have e:=Wy hB2 (Ss hB2);refine ⟨e,?_⟩;rw [← Cf] at h ⊢;unfold Pf.read at h ⊢;rw [e];rw [if_neg (by simp)];by_cases h0:(Rd.read s).2 ≠ 0
 ·rw [if_pos h0] at h;exact absurd h h0
 rw [if_neg h0] at h;exact Sb (ms:=(Rd.read s).1.methods) hb h (fun m hmr=>(hm m hmr).2.2)
theorem Nc (ms:List Rd.Mth) (n:Nat):(ms.map Rd.Mth.bare).getD n ⟨0,0,[],(0,0),0,0,[],[],[]⟩=(ms.getD n ⟨0,0,[],(0,0),0,0,[],[],[]⟩).bare:=by
 simp only [List.getD_eq_getElem?_getD,List.getElem?_map];cases ms[n]? <;> rfl
theorem Rl (F:List Rf.Fld) (ms:List Rd.Mth) (res:Int × Int) (op n:Int):Ck.takes F (ms.map Rd.Mth.bare) res op n=Ck.takes F ms res op n:=by
 unfold Ck.takes;rw [Nc];rfl
theorem Pe (F:List Rf.Fld) (ms:List Rd.Mth) (op n:Int):Ck.leaves F (ms.map Rd.Mth.bare) op n=Ck.leaves F ms op n:=by
 unfold Ck.leaves;rw [Nc];rfl
theorem Lu (cs:List Rd.Cls) (ms:List Rd.Mth) (m:Rd.Mth):Ck.mRule cs (ms.map Rd.Mth.bare) m.bare=Ck.mRule cs ms m:=by
 funext p x
 unfold Ck.mRule;rw [Gs,Gs,Rl,Pe];rfl
theorem N3 {cs:List Rd.Cls}{ms r:List Rd.Mth} (hb:r.map Rd.Mth.bare=ms.map Rd.Mth.bare) {m m0:Rd.Mth} (h:m0.bare=m.bare):Ls.env cs r m=Ls.env cs ms m0:=by
 have e:Ck.mRule cs r m=Ck.mRule cs ms m0:=by rw [← Lu cs r,← Lu cs ms,hb,h]
 unfold Ls.env;rw [e];obtain ⟨cl,nm,ps,rs,lo,st,cd,hs,mp⟩:=m;obtain ⟨cl',nm',ps',rs',lo',st',cd',hs',mp'⟩:=m0;simp only [Rd.Mth.bare,Rd.Mth.mk.injEq,and_true] at h;obtain ⟨rfl,rfl,rfl,rfl,rfl,rfl,rfl,rfl⟩:=h;rfl
theorem U9 {T c:List Int}{t:Int × Int} (h:Ck.tyOk T (Ck.isN c) t):Cd.framed T c t.1 t.2=true:=by
 obtain ⟨h,h4⟩:=h;unfold Cd.framed;rcases h with ⟨a,b⟩ | ⟨a,b⟩ | ⟨a,b⟩ | ⟨a,b⟩ | ⟨a,b⟩
 ·rw [if_pos (.inl a),b];rfl
 ·rw [if_pos (.inr (.inl a)),b];rfl
 ·rw [if_pos (.inr (.inr a)),b];rfl
 ·rw [if_neg (by omega),if_pos a];exact Dw.2 b
 ·rw [if_neg (by omega),if_neg (by omega),if_pos a];obtain ⟨h1,h2⟩:=h4 a;rw [h1,h2];rfl
theorem Tf {T c:List Int} (hT:T.length≤255) (hc:c.length≤255) {t:Int × Int} (h:Ck.tyOk T (Ck.isN c) t):TyB t:=by
 obtain ⟨h,h4⟩:=h;rcases h with ⟨a,b⟩ | ⟨a,b⟩ | ⟨a,b⟩ | ⟨a,b⟩ | ⟨a,b⟩
 ·exact ⟨⟨by omega,by omega⟩,⟨by omega,by omega⟩⟩
 ·exact ⟨⟨by omega,by omega⟩,⟨by omega,by omega⟩⟩
 ·exact ⟨⟨by omega,by omega⟩,⟨by omega,by omega⟩⟩
 ·exact ⟨⟨by omega,by omega⟩,⟨by omega,by omega⟩⟩
 ·have:=Eh (h4 a).1;exact ⟨⟨by omega,by omega⟩,⟨by omega,by omega⟩⟩
theorem N1 {T c:List Int}{l:List (Int × Int)} (h:∀ t∈l,Ck.tyOk T (Ck.isN c) t):Cd.frAll T c l=true:=by
 unfold Cd.frAll;rw [List.all_eq_true];exact fun t ht=>U9 (h t ht)
theorem Hm {T c:List Int}:∀ (l:List Ls.Sp) (k i:Nat) (last:Int),last < (k:Int)→(∀ j p,l[j]?=some p→p.wa=true→Cd.begB c ((k+j:Nat):Int)=true∧Cd.frAll T c p.fr.locals=true∧Cd.frAll T c p.fr.stack=true)→Cd.mapsBad T c i last (Ls.mapsOf k l) < 0
 | [],_,_,_,_,_=>by simp [Ls.mapsOf,Cd.mapsBad]
 | p :: r,k,i,last,hl,h=>by
  have hr:∀ j p',r[j]?=some p'→p'.wa=true→Cd.begB c ((k+1+j:Nat):Int)=true∧Cd.frAll T c p'.fr.locals=true∧Cd.frAll T c p'.fr.stack=true:=fun j p' h1 h2=>by
   have:=h (j+1) p' (by simpa using h1) h2
   rwa [show k+(j+1)=k+1+j by omega] at this
  unfold Ls.mapsOf;by_cases hw:p.wa=true
  ·obtain ⟨h1,h2,h3⟩:=h 0 p rfl hw;rw [if_pos hw,Cd.mapsBad];simp only;rw [if_neg (by rw [show ((k:Nat):Int)=((k+0:Nat):Int) by omega,h1];simp),if_neg (by omega),if_neg (by rw [h2];simp),if_neg (by rw [h3];simp)];exact Hm r (k+1) (i+1) _ (by omega) hr
  ·rw [if_neg hw];exact Hm r (k+1) i last (by omega) hr
theorem Ky:∀ (l:List Ls.Sp) (k:Nat),(∀ q∈Ls.mapsOf k l,(k:Int)≤q.place)∧(Ls.mapsOf k l).Pairwise (fun a b=>a.place < b.place)
 | [],_=>by simp [Ls.mapsOf]
 | p :: r,k=>by
  obtain ⟨h1,h2⟩:=Ky r (k+1);unfold Ls.mapsOf;by_cases hw:p.wa=true
  ·rw [if_pos hw];refine ⟨fun q hq=>?_,List.pairwise_cons.2 ⟨fun q hq=>?_,h2⟩⟩
   ·rcases List.mem_cons.1 hq with rfl | hq
    ·exact Int.le_refl _
    ·have:=h1 q hq;omega
   ·have:=h1 q hq;show (k:Int) < q.place;omega
  ·rw [if_neg hw];exact ⟨fun q hq=>by have:=h1 q hq;omega,h2⟩
theorem Me {α:Type} [BEq α] [LawfulBEq α]:∀ (l r:List α),l.Nodup→(∀ x∈l,x∈r)→l.length≤r.length
 | [],_,_,_=>Nat.zero_le _
 | x :: l,r,hn,h=>by
  have hx:=h x (by simp);obtain ⟨h1,h2⟩:=List.nodup_cons.1 hn;have:=Me l (r.erase x) h2 (fun y hy=>(List.mem_erase_of_ne (fun e=>h1 (by rw [← e];exact hy))).2 (h y (by simp [hy])));have e:=List.length_erase_of_mem hx;have:0 < r.length:=List.length_pos_of_mem hx;simp only [List.length_cons];omega
theorem Mx (c:List Int):∀ (k p:Nat),(∀ q∈Cd.starts c k p,q+Cd.wd (c.getD q 0)≤c.length)→p≤c.length→2 * ((Cd.starts c k p).filter (fun q=>Ck.jumps (c.getD q 0))).length+p≤c.length
 | 0,p,_,hp=>by simp [Cd.starts];exact hp
 | k+1,p,h,hp=>by
  unfold Cd.starts at h ⊢;by_cases hl:p < c.length
  ·rw [if_pos hl] at h ⊢;have hw:=h p (by simp);have hb:=Cd.wd_bd (c.getD p 0);have ih:=Mx c k (p+Cd.wd (c.getD p 0)) (fun q hq=>h q (List.mem_cons_of_mem _ hq)) hw;rw [List.filter_cons];by_cases hj:Ck.jumps (c.getD p 0)=true
   ·have h2:Cd.wd (c.getD p 0)=2:=by
     generalize c.getD p 0=op at *;unfold Ck.jumps at hj;have hop:op=11∨op=12∨op=13∨op=14:=by simpa using hj
     unfold Cd.wd;rw [if_pos (by omega)]
    rw [if_pos hj,List.length_cons];omega
   ·rw [if_neg hj];omega
  ·rw [if_neg hl]
   simpa using hp
theorem Vd {cs:List Rd.Cls}{ms:List Rd.Mth} (k:Fm.Ok cs ms) {m:Rd.Mth} (hm:m∈ms) (hc:0 < m.code.length) {mp:List Rd.Mp} (h:Ls.mapsFor cs ms m=some mp) :
  mp.length≤64∧(∀ q∈mp,MpB m.locals m.stack q)∧Cd.mapsBad (Tr.tree cs) m.code 0 (-1) mp < 0:=by
 have g:=k.mt m hm;have gE:=Df k hm hc;obtain ⟨hL,hA⟩:=Dr k hm;obtain ⟨f1,f2⟩:=Ja k hm hc h;obtain ⟨s1,s2,s3,_⟩:=Dg gE hL hA;have hTl:=Bj cs;have hl6:=k.l6;have h120:=g.bd.code;have hlo:=g.rd.lo;unfold Ls.mapsFor at h;by_cases hh:(Ls.state cs ms m).hop=true
 ·rw [if_pos hh] at h;cases h
 rw [if_neg hh] at h;cases h;have hh':(Ls.state cs ms m).hop=false:=by simpa using hh
 obtain ⟨sol,inps,aim⟩:=s3 hh';have want:∀ q,((Ls.state cs ms m).at q).wa=true→((Ls.state cs ms m).at q).st=true∧Ck.P (Tr.tree cs) m ((Ls.state cs ms m).at q).fr:=fun q hq=>Dn gE hL hA hh' hq;have at_eq:∀ (j:Nat) p,(Ls.state cs ms m).sp[j]?=some p→(Ls.state cs ms m).at j=p:=fun j p hj=>by unfold Ls.S.at;rw [List.getD_eq_getElem?_getD,hj];rfl
 refine ⟨?_,fun q hq=>?_,?_⟩
 ·have hn:((Ls.mapsOf 0 (Ls.state cs ms m).sp).map Rd.Mp.place).Nodup:=by
   have:=(Ky (Ls.state cs ms m).sp 0).2;refine List.pairwise_map.2 (this.imp ?_);intro a b hab e;omega
  have hsub:∀ x∈(Ls.mapsOf 0 (Ls.state cs ms m).sp).map Rd.Mp.place,x∈m.handlers.map Rd.Hnd.target ++ ((Cd.places m.code).filter (fun q=>Ck.jumps (m.code.getD q 0))).map (fun p:Nat=>Cd.atI m.code ((p:Int)+1)):=by
   intro x hx;obtain ⟨q,hq,rfl⟩:=List.mem_map.1 hx;obtain ⟨i,p,e1,e2,rfl⟩:=Fj _ _ _ hq;have e3:=at_eq i p e1;obtain ⟨p',hp',hF,ha⟩:=(aim i).1 (by show ((Ls.state cs ms m).at i).wa=true;rw [e3];exact e2);simp only [Nat.zero_add];rcases ha with ⟨h',hh2,hcov,et⟩ | ⟨hj,et⟩
   ·refine List.mem_append.2 (.inl (List.mem_map.2 ⟨h',hh2,?_⟩));have:=(gE.hnd h' hh2).1;omega
   ·refine List.mem_append.2 (.inr (List.mem_map.2 ⟨p',List.mem_filter.2 ⟨hp',hj⟩,?_⟩));have h0:0≤Cd.atI m.code ((p':Int)+1):=(gE.tgt p' hp' hj).1;have et':(Cd.atI m.code ((p':Int)+1)).toNat=i:=et;omega
  have hle:=Me _ _ hn hsub;have hf:=Mx m.code m.code.length 0 (fun q hq=>(Cr g.unread q hq).2) (Nat.zero_le _);have h4:=g.bd.hs;change 2 * ((Cd.places m.code).filter (fun q=>Ck.jumps (m.code.getD q 0))).length+0≤m.code.length at hf;simp only [List.length_append,List.length_map] at hle;omega
 ·obtain ⟨q0,q1,hP⟩:=f2 q hq;have l1:=hP.lo;have l2:=hP.hi;simp only at l1 l2;exact ⟨⟨q0,by omega⟩,by omega,l2,fun t ht=>Tf (by omega) (by omega) (hP.tl t ht),fun t ht=>Tf (by omega) (by omega) (hP.ts t ht)⟩
 ·refine Hm _ 0 0 (-1) (by omega) (fun j p e1 e2=>?_);have e3:=at_eq j p e1;obtain ⟨w1,w2⟩:=want j (by rw [e3];exact e2);rw [e3] at w1 w2;have hps:j∈Cd.places m.code:=inps j (by
   have:(Ls.state cs ms m).F j=some p.fr:=Bv.2 ⟨by rw [e3];exact w1,by rw [e3]⟩;show (Ls.state cs ms m).F j ≠ none;rw [this];simp)
  refine ⟨?_,N1 w2.tl,N1 w2.ts⟩;rw [Nat.zero_add];unfold Cd.begB;rw [List.any_eq_true];exact ⟨j,hps,by simp⟩
theorem Jg {FM FM':Rd.Mth→Option (List Rd.Mp)}:∀ (r ms:List Rd.Mth) (k:Nat),r.map Rd.Mth.bare=ms.map Rd.Mth.bare→(∀ m'∈r,∀ m∈ms,m.bare=m'.bare→FM' m'=FM m)→Ls.filled FM' r=Ls.filled FM ms∧Ls.which FM' k r=Ls.which FM k ms
 | [],[],_,_,_=>⟨rfl,rfl⟩
 | [],_ :: _,_,h,_=>by simp at h
 | _ :: _,[],_,h,_=>by simp at h
 | m' :: r,m :: ms,k,h,hf=>by
  simp only [List.map_cons,List.cons.injEq] at h;have e:=hf m' (by simp) m (by simp) h.1.symm;obtain ⟨i1,i2⟩:=Jg r ms (k+1) h.2 (fun x hx y hy=>hf x (by simp [hx]) y (by simp [hy]));have ew:∀ mp,m'.withMaps mp=m.withMaps mp:=fun mp=>by
   have:m'.bare.withMaps mp=m.bare.withMaps mp:=by rw [h.1]
   exact this
  unfold Ls.filled Ls.which;rw [e,i1,i2];refine ⟨?_,rfl⟩;cases FM m with
  | none=>rfl
  | some mp=>simp only [ew]
theorem I9 {FM:Rd.Mth→Option (List Rd.Mp)}:∀ (ms r:List Rd.Mth),Ls.filled FM ms=some r→r.map Rd.Mth.bare=ms.map Rd.Mth.bare
 | [],r,h=>by cases h;rfl
 | m :: ms,r,h=>by
  unfold Ls.filled at h;cases hf:FM m with
  | none=>rw [hf] at h;cases h
  | some mp =>
   rw [hf] at h;simp only at h;cases hr:Ls.filled FM ms with
   | none=>rw [hr] at h;cases h
   | some r' =>
    rw [hr] at h;cases h;simp only [List.map_cons,I9 ms r' hr];rfl
structure Alike (s p:List UInt8) (r:List Rd.Mth):Prop where
 s0:(Rf.formed s).1=0
 rd:Rd.read p=(⟨(Rd.read s).1.classes,r⟩,0)
 p0:(Rf.formed p).1=0
 eq:r.map Rd.Mth.bare=(Rd.read s).1.methods.map Rd.Mth.bare
theorem Alike.mapsFor {s p:List UInt8}{r:List Rd.Mth} (h:Alike s p r) {m' m:Rd.Mth} (h':m'∈r) (hm:m∈(Rd.read s).1.methods) (e:m.bare=m'.bare):Ls.mapsFor (Rd.read s).1.classes r m'=Ls.mapsFor (Rd.read s).1.classes (Rd.read s).1.methods m:=by
 obtain ⟨k,_,_⟩:=Bk _ h.s0;obtain ⟨k',_,_⟩:=Bk _ h.p0;have hcs:=Dv _ (Cg h.s0);have hcp:=Dv _ (Cg h.p0);rw [h.rd] at k' hcp;rw [Ii k hm (hcs m hm),Ii k' h' (hcp m' h')];unfold Lr.for;rw [N3 h.eq e]
theorem Alike.prep {s p:List UInt8}{r:List Rd.Mth} (h:Alike s p r):Ls.prep p=Ls.prep s:=by
 unfold Ls.prep;rw [if_neg (fun g=>g h.p0),if_neg (fun g=>g h.s0),h.rd];simp only;obtain ⟨e1,e2⟩:=Jg (FM:=Ls.mapsFor (Rd.read s).1.classes (Rd.read s).1.methods) (FM':=Ls.mapsFor (Rd.read s).1.classes r) r (Rd.read s).1.methods 0 h.eq (fun m' h' m hm e=>h.mapsFor h' hm e);rw [e1,e2]
theorem R9 {s:List UInt8} (h:(Rf.formed s).1=0):Alike s (Wr.fil (Rd.Fil.bare (Rd.read s).1)) ((Rd.read s).1.methods.map Rd.Mth.bare):=by
 have e:((Rd.read s).1.methods.map Rd.Mth.bare).map Rd.Mth.bare=(Rd.read s).1.methods.map Rd.Mth.bare:=by rw [List.map_map];rfl
 obtain ⟨h1,h2⟩:=Ig h e (fun m hm=>by
  obtain ⟨m0,_,rfl⟩:=List.mem_map.1 hm;exact ⟨Nat.zero_le _,fun q hq=>by simp [Rd.Mth.bare] at hq,by simp [Rd.Mth.bare,Cd.mapsBad]⟩)
 exact ⟨h,h1,h2,e⟩
theorem If {s:List UInt8} (h:(Rf.formed s).1=0) {r:List Rd.Mth} (hr:Ls.filled (Ls.mapsFor (Rd.read s).1.classes (Rd.read s).1.methods) (Rd.read s).1.methods=some r):Alike s (Wr.fil ⟨(Rd.read s).1.classes,r⟩) r:=by
 have e:=I9 _ _ hr;obtain ⟨k,_,_⟩:=Bk _ h;have hcs:=Dv _ (Cg h);obtain ⟨h1,h2⟩:=Ig h e (fun m hm=>by
  obtain ⟨m0,h0,mp,hmp,rfl⟩:=(D8 _ _ hr).2 m hm;exact Vd k h0 (hcs m0 h0) hmp)
 exact ⟨h,h1,h2,e⟩
theorem Od:∀ (l:List Ls.Sp) (k i:Nat) (p:Ls.Sp),l[i]?=some p→p.wa=true→Ck.mapAt ((k+i:Nat):Int) (Ls.mapsOf k l)=some p.fr
 | [],_,_,_,h,_=>by simp at h
 | x :: r,k,0,p,h,hw=>by
  simp only [List.getElem?_cons_zero,Option.some.injEq] at h;subst h;unfold Ls.mapsOf;rw [if_pos hw,Ck.mapAt]
  simp
 | x :: r,k,i+1,p,h,hw=>by
  have ih:=Od r (k+1) i p (by simpa using h) hw;rw [show k+1+i=k+(i+1) by omega] at ih;unfold Ls.mapsOf
  split
  ·rw [Ck.mapAt,if_neg (by simp only;omega)];exact ih
  ·exact ih
theorem J2:∀ (l:List Ls.Sp) (k q:Nat) (z:Ck.Fr),Ck.mapAt (q:Int) (Ls.mapsOf k l)=some z→∃ i p,l[i]?=some p∧q=k+i∧p.wa=true∧p.fr=z
 | [],_,_,_,h=>by simp [Ls.mapsOf,Ck.mapAt] at h
 | x :: r,k,q,z,h=>by
  unfold Ls.mapsOf at h;by_cases hw:x.wa=true
  ·rw [if_pos hw,Ck.mapAt] at h;by_cases e:(k:Int)=(q:Int)
   ·rw [if_pos e] at h;exact ⟨0,x,rfl,by omega,hw,Option.some.inj h⟩
   ·rw [if_neg e] at h;obtain ⟨i,p,h1,h2,h3⟩:=J2 r (k+1) q z h;exact ⟨i+1,p,by simpa using h1,by omega,h3⟩
  ·rw [if_neg hw] at h;obtain ⟨i,p,h1,h2,h3⟩:=J2 r (k+1) q z h;exact ⟨i+1,p,by simpa using h1,by omega,h3⟩
theorem Jf {CR:Rd.Mth→Int × Int}:∀ (l:List Rd.Mth) (k:Nat),(Ck.firstOf CR k l).1=0↔∀ m∈l,(CR m).1=0
 | [],_=>by simp [Ck.firstOf]
 | m :: r,k=>by
  unfold Ck.firstOf;by_cases h:(CR m).1=0
  ·rw [if_neg (fun g=>g h),Jf r (k+1)];simp [h]
  ·rw [if_pos h]
   constructor
   ·intro g;exact absurd g h
   ·intro g;exact absurd (g m (by simp)) h
theorem Vz {s:List UInt8} (h:(Rf.formed s).1=0):(Ck.all s).1=0↔∀ m∈(Rd.read s).1.methods,(Ck.mChecked (Rd.read s).1.classes (Rd.read s).1.methods m).1=0:=by
 unfold Ck.all Ck.check;rw [if_neg (fun g=>g h)];exact Jf _ _
theorem Lk {s:List UInt8} (h:(Rf.formed s).1=0) {r:List Rd.Mth} (hr:Ls.filled (Ls.mapsFor (Rd.read s).1.classes (Rd.read s).1.methods) (Rd.read s).1.methods=some r):(Ck.all (Wr.fil ⟨(Rd.read s).1.classes,r⟩)).1=0:=by
 have al:=If h hr;rw [Vz al.p0,al.rd];intro m' hm';simp only at hm';obtain ⟨m,hm,mp,hmp,rfl⟩:=(D8 _ _ hr).2 m' hm';obtain ⟨k,_,_⟩:=Bk _ h;obtain ⟨k',_,_⟩:=Bk _ al.p0;rw [al.rd] at k';have hc:=Dv _ (Cg h) m hm;have gE:=Df k hm hc;obtain ⟨hL,hA⟩:=Dr k hm;have eE:Ls.env (Rd.read s).1.classes r (m.withMaps mp)=Ls.env (Rd.read s).1.classes (Rd.read s).1.methods m:=N3 al.eq rfl;unfold Ls.mapsFor at hmp;by_cases hh:(Ls.state (Rd.read s).1.classes (Rd.read s).1.methods m).hop=true
 ·rw [if_pos hh] at hmp;cases hmp
 rw [if_neg hh] at hmp;cases hmp;have hh':(Ls.state (Rd.read s).1.classes (Rd.read s).1.methods m).hop=false:=by simpa using hh
 obtain ⟨_,_,s3,_⟩:=Dg gE hL hA;obtain ⟨sol,_,aim⟩:=s3 hh';have at_eq:∀ (j:Nat) p,(Ls.state (Rd.read s).1.classes (Rd.read s).1.methods m).sp[j]?=some p→(Ls.state (Rd.read s).1.classes (Rd.read s).1.methods m).at j=p:=fun j p hj=>by unfold Ls.S.at;rw [List.getD_eq_getElem?_getD,hj];rfl
 refine O9 k' hm' hc (F:=(Ls.state (Rd.read s).1.classes (Rd.read s).1.methods m).F) (by rw [eE];exact sol) (fun q z hz=>?_) (fun p hp hne q ha=>?_)
 ·obtain ⟨i,x,h1,h2,h3,h4⟩:=J2 _ _ _ _ hz;have e3:=at_eq i x h1;have hw:=Dn gE hL hA hh' (q:=i) (by show ((Ls.state (Rd.read s).1.classes (Rd.read s).1.methods m).at i).wa=true;rw [e3];exact h3);have hst:((Ls.state (Rd.read s).1.classes (Rd.read s).1.methods m).at i).st=true:=hw.1;rw [h2,Nat.zero_add];exact Bv.2 ⟨hst,by rw [e3];exact h4⟩
 ·rw [eE] at ha;have hw:((Ls.state (Rd.read s).1.classes (Rd.read s).1.methods m).at q).wa=true:=(aim q).2 ⟨p,hp,hne,ha⟩;have hst:=(Dn gE hL hA hh' (q:=q) hw).1;have hlt:q < (Ls.state (Rd.read s).1.classes (Rd.read s).1.methods m).sp.length:=Ws hst;have hg:=List.getElem?_eq_getElem hlt;have e3:=at_eq q _ hg;have:=Od _ 0 q _ hg (by rw [← e3];exact hw);rw [Nat.zero_add] at this;exact ⟨_,this⟩
end Go.Proofs.YtcefiamkoincoaaGreat
