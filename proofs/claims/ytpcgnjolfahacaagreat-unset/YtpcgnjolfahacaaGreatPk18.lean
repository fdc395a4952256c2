/- a part of the proofs -/
import Derived.Test.YtpcgnjolfahacaaGreatPk17
set_option maxRecDepth 100000
set_option maxHeartbeats 40000000
set_option linter.unusedVariables false
set_option linter.unusedSimpArgs false
namespace Go.Proofs.YtpcgnjolfahacaaGreat
open Go.RowKit
def By (n:Int):Prop:=0≤n∧n≤255
def TyB (t:Int × Int):Prop:=By t.1∧By t.2
def Lies (s:List UInt8) (p:Nat) (l:List UInt8):Prop:=∃ r,s.drop p=l++r
theorem Lies.cut {s:List UInt8}{p:Nat}{a b:List UInt8} (h:Lies s p (a++b)):Lies s p a∧Lies s (p+a.length) b:=by
 obtain⟨r,h⟩:=h;refine⟨⟨b++r,by rw[h,List.append_assoc]⟩,⟨r,?_⟩⟩;rw[← List.drop_drop,h,List.append_assoc,List.drop_left]
theorem Lies.head {s:List UInt8}{p:Nat}{x:UInt8}{l:List UInt8} (h:Lies s p (x::l)):s[p]?=some x∧p<s.length∧Lies s (p+1) l:=by
 obtain⟨r,h⟩:=h;have h0:s[p]?=some x:=by
  have:=congrArg (·[0]?) h
  simpa using this
 refine⟨h0,(List.getElem?_eq_some_iff.1 h0).1,⟨r,?_⟩⟩;rw[← List.drop_drop,h];rfl
theorem Ae1 {n:Int} (h:By n):((Ahk n).toNat:Int)=n:=by
 unfold Ahk;obtain⟨h0,h1⟩:=h;rw[UInt8.toNat_ofNat',Int.emod_eq_of_lt (by omega) (by omega),Nat.mod_eq_of_lt (by omega)];omega
theorem Ci {s:List UInt8}{p:Nat}{n:Int}{l:List UInt8} (hn:By n) (h:Lies s p (Ahk n::l)):Rd.nx s ⟨p,false⟩=(n,⟨p+1,false⟩)∧Lies s (p+1) l:=by
 obtain⟨h0,h1,h2⟩:=h.head;refine⟨?_,h2⟩;unfold Rd.nx;rw[if_neg (by simp),if_neg (by simp only;omega),h0];simp only[Option.getD_some];rw[Ae1 hn]
theorem Dt {s:List UInt8}{p:Nat}{n a b:Int}{l:List UInt8} (hn:By n) (ha:a≤n) (hb:n≤b) (h:Lies s p (Ahk n::l)):Rd.cn s a b ⟨p,false⟩=(n,⟨p+1,false⟩)∧Lies s (p+1) l:=by
 obtain⟨h0,h1⟩:=Ci hn h;refine⟨?_,h1⟩;unfold Rd.cn;rw[h0];simp only;rw[if_neg (by omega),if_neg (by omega)]
theorem Fu {s:List UInt8}{α:Type} (f:Rd.St→α × Rd.St) (W:α→List UInt8) (l:List α) (hf:∀ x∈l,∀ p,Lies s p (W x)→f ⟨p,false⟩=(x,⟨p+(W x).length,false⟩)) (p:Nat) (h:Lies s p (l.flatMap W)) :
  Rd.rep f l.length ⟨p,false⟩=(l,⟨p+(l.flatMap W).length,false⟩):=by
 have key:∀ k,k≤l.length→Rd.rep f k ⟨p,false⟩=(l.take k,⟨p+((l.take k).flatMap W).length,false⟩):=by
  intro k
  induction k with
  | zero=>intro _;simp[Rd.rep]
  | succ k ih =>
   intro hk;have hkl:k<l.length:=by omega
   rw[Rd.rep,ih (by omega)];have e:l.flatMap W=(l.take k).flatMap W++(W l[k]++(l.drop (k+1)).flatMap W):=by
    conv=>lhs;rw[← List.take_append_drop k l,List.flatMap_append,List.drop_eq_getElem_cons hkl,List.flatMap_cons]
   rw[e]at h;have h2:=h.cut.2.cut.1;simp only;rw[hf l[k] (List.getElem_mem hkl) _ h2,List.take_succ_eq_append_getElem hkl];simp only[List.flatMap_append,List.flatMap_cons,List.flatMap_nil,List.append_nil,List.length_append];rw[Nat.add_assoc]
 have:=key l.length (Nat.le_refl _)
 rwa [List.take_length]at this
theorem Vj {s:List UInt8}{p:Nat}{t:Int × Int} (ht:TyB t) (h:Lies s p (Ajp t)):Rd.ty s ⟨p,false⟩=(t,⟨p+2,false⟩):=by
 obtain⟨t1,t2⟩:=t;obtain⟨a,b⟩:=Ci ht.1 h;obtain⟨c,_⟩:=Ci ht.2 b;unfold Rd.ty;rw[a];simp only;rw[c]
theorem Dj (l:List (Int × Int)):(Aia l).length=2*l.length:=by
 induction l with
 | nil=>rfl
 | cons t r ih=>simp only[Aia,List.flatMap_cons,List.length_append,List.length_cons]at ih ⊢;rw[ih];simp[Ajp];omega
theorem Ig {s:List UInt8}{p:Nat}{l:List (Int × Int)} (hl:∀ t∈l,TyB t) (h:Lies s p (Aia l)):Rd.tys s l.length ⟨p,false⟩=(l,⟨p+2*l.length,false⟩):=by
 unfold Rd.tys;rw[Fu (Rd.ty s) Ajp l (fun t ht q hq=>by rw[Vj (hl t ht) hq];rfl) p h,← Dj];rfl
structure ClsB (c:Rd.Cls):Prop where
 ab:By c.above
 fl:c.fields.length≤4
 ty:∀ t∈c.fields,TyB t
theorem Adi {s:List UInt8}{p:Nat}{c:Rd.Cls} (hc:ClsB c) (h:Lies s p (Ajg c)):Rd.cls s ⟨p,false⟩=(c,⟨p+(Ajg c).length,false⟩):=by
 obtain⟨ab,fl⟩:=c;have hl:=hc.fl;simp only at hl;obtain⟨a1,a2⟩:=Ci hc.ab h;obtain⟨b1,b2⟩:=Dt (n:=(fl.length:Int)) (a:=0) (b:=4) ⟨by omega,by omega⟩ (by omega) (by omega) a2;have c1:=Ig (p:=p+1+1) hc.ty b2;unfold Rd.cls;rw[a1];simp only;rw[b1];simp only[Int.toNat_natCast];rw[c1];simp only[Ajg,List.length_cons,Dj];rw[show p+1+1+2*fl.length=p+(2*fl.length+1+1) by omega]
structure HndB (h:Rd.Hnd):Prop where
 fr:By h.frm
 tl:By h.til
 tg:By h.target
 cl:By h.cl
theorem Acd {s:List UInt8}{p:Nat}{c:Rd.Hnd} (hc:HndB c) (h:Lies s p (Aj1 c)):Rd.hnd s ⟨p,false⟩=(c,⟨p+(Aj1 c).length,false⟩):=by
 obtain⟨x,y,z,u⟩:=c;obtain⟨a1,a2⟩:=Ci hc.fr h;obtain⟨b1,b2⟩:=Ci hc.tl a2;obtain⟨c1,c2⟩:=Ci hc.tg b2;obtain⟨d1,_⟩:=Ci hc.cl c2;unfold Rd.hnd;simp only[a1,b1,c1,d1,Aj1,List.length_cons,List.length_nil]
theorem Aao {s:List UInt8}{p:Nat}{l:List Rd.Hnd} (h4:l.length≤4) (hl:∀ c∈l,HndB c) (h:Lies s p (Aj4 l)):Rd.hnds s ⟨p,false⟩=(l,⟨p+(Aj4 l).length,false⟩):=by
 obtain⟨b1,b2⟩:=Dt (n:=(l.length:Int)) (a:=0) (b:=4) ⟨by omega,by omega⟩ (by omega) (by omega) h;unfold Rd.hnds;simp only[b1,Int.toNat_natCast];rw[Fu (Rd.hnd s) Aj1 l (fun t ht q hq=>Acd (hl t ht) hq) _ b2];simp only[Aj4,List.length_cons];rw[show p+1+(l.flatMap Aj1).length=p+((l.flatMap Aj1).length+1) by omega]
structure MpB (lo hi:Int) (m:Rd.Mp):Prop where
 pl:By m.place
 lo:(m.locals.length:Int)=lo
 hi:(m.stack.length:Int)≤hi
 tl:∀ t∈m.locals,TyB t
 ts:∀ t∈m.stack,TyB t
theorem Ae5 {s:List UInt8}{p:Nat}{lo hi:Int}{m:Rd.Mp} (h255:hi≤255) (hm:MpB lo hi m) (h:Lies s p (Ai6 m)):Rd.mp s lo hi ⟨p,false⟩=(m,⟨p+(Ai6 m).length,false⟩):=by
 obtain⟨pl,ls,ss⟩:=m;have hl:=hm.lo;have hh:=hm.hi;simp only at hl hh;obtain⟨a1,a2⟩:=Ci hm.pl h;obtain⟨b1,b2⟩:=a2.cut;have b3:=Ig hm.tl b1;simp only[Dj]at b2 b3;obtain⟨c1,c2⟩:=Dt (n:=(ss.length:Int)) (a:=0) (b:=hi) ⟨by omega,by omega⟩ (by omega) hh b2;have d1:=Ig hm.ts c2;simp only at d1;unfold Rd.mp;have e1:lo.toNat=ls.length:=by omega
 simp only[a1,e1,b3,c1,Int.toNat_natCast,d1,Ai6,List.length_cons,List.length_append,Dj];rw[show p+1+2*ls.length+1+2*ss.length=p+(2*ls.length+(2*ss.length+1)+1) by omega]
theorem Ab8 {s:List UInt8}{p:Nat}{lo hi:Int}{l:List Rd.Mp} (h255:hi≤255) (h64:l.length≤64) (hl:∀ c∈l,MpB lo hi c) (h:Lies s p (Akv l)):Rd.mps s lo hi ⟨p,false⟩=(l,⟨p+(Akv l).length,false⟩):=by
 obtain⟨b1,b2⟩:=Dt (n:=(l.length:Int)) (a:=0) (b:=64) ⟨by omega,by omega⟩ (by omega) (by omega) h;unfold Rd.mps;simp only[b1,Int.toNat_natCast];rw[Fu (Rd.mp s lo hi) Ai6 l (fun t ht q hq=>Ae5 h255 (hl t ht) hq) _ b2];simp only[Akv,List.length_cons];rw[show p+1+(l.flatMap Ai6).length=p+((l.flatMap Ai6).length+1) by omega]
theorem Wa (l:List Int):l.map Ahk=l.flatMap (fun x=>[Ahk x]):=by
 induction l with
 | nil=>rfl
 | cons x r ih=>rw[List.map_cons,List.flatMap_cons,ih];rfl
theorem Wt {s:List UInt8}{p:Nat}{l:List Int} (h1:1≤l.length) (h2:l.length≤120) (hl:∀ c∈l,By c) (h:Lies s p (Ahk (l.length:Int)::l.map Ahk)):Rd.codes s ⟨p,false⟩=(l,⟨p+1+l.length,false⟩):=by
 obtain⟨b1,b2⟩:=Dt (n:=(l.length:Int)) (a:=1) (b:=120) ⟨by omega,by omega⟩ (by omega) (by omega) h;have e:=Wa l;rw[e]at b2;unfold Rd.codes;simp only[b1,Int.toNat_natCast];rw[Fu (Rd.nx s) (fun x=>[Ahk x]) l (fun t ht q hq=>(Ci (hl t ht) hq).1) _ b2,← e,List.length_map]
structure MthB (m:Rd.Mth):Prop where
 cl:By m.cl
 nm:By m.name
 pl:m.params.length≤4
 ps:∀ t∈m.params,TyB t
 rs:TyB m.result
 lo:0≤m.locals∧m.locals≤8
 st:0≤m.stack∧m.stack≤8
 c1:1≤m.code.length
 c2:m.code.length≤120
 cb:∀ x∈m.code,By x
 h4:m.handlers.length≤4
 hb:∀ h∈m.handlers,HndB h
 m6:m.maps.length≤64
 mb:∀ q∈m.maps,MpB m.locals m.stack q
theorem Acc {s:List UInt8}{p:Nat}{m:Rd.Mth} (hm:MthB m) (h:Lies s p (Ai0 m)):Rd.mth s ⟨p,false⟩=(m,⟨p+(Ai0 m).length,false⟩):=by
 have hpl:=hm.pl;have hlo:=hm.lo;have hst:=hm.st;obtain⟨cl,nm,ps,rs,lo,st,cd,hs,mp⟩:=m;simp only at hpl hlo hst;unfold Ai0 Als at h;simp only[List.append_assoc]at h;obtain⟨g1,g2⟩:=Ci hm.cl h;obtain⟨a1,a2⟩:=Ci hm.nm g2;obtain⟨b1,b2⟩:=Dt (n:=(ps.length:Int)) (a:=0) (b:=4) ⟨by omega,by omega⟩ (by omega) (by omega) a2;obtain⟨c1,c2⟩:=Lies.cut (a:=Aia ps) b2;have c3:=Ig hm.ps c1;simp only[Dj]at c2 c3;obtain⟨d1,d2⟩:=Lies.cut (a:=Ajp rs) c2;have d3:=Vj hm.rs d1;obtain⟨e1,e2⟩:=Dt (n:=lo) (a:=0) (b:=8) ⟨by omega,by omega⟩ (by omega) (by omega) d2;obtain⟨f1,f2⟩:=Dt (n:=st) (a:=0) (b:=8) ⟨by omega,by omega⟩ (by omega) (by omega) e2;obtain⟨i1,i2⟩:=Lies.cut (a:=Ahk (cd.length:Int)::cd.map Ahk) f2;have i3:=Wt hm.c1 hm.c2 hm.cb i1;obtain⟨j1,j2⟩:=Lies.cut (a:=Aj4 hs) i2;have j3:=Aao hm.h4 hm.hb j1;have k3:=Ab8 (hi:=st) (by omega) hm.m6 hm.mb j2;simp only[Ajp,List.length_cons,List.length_nil,List.length_map]at e1 f1 i3 j3 k3 d3;unfold Rd.mth;simp only[g1,a1,b1,Int.toNat_natCast,c3,d3,e1,f1,i3];rw[show p+1+1+1+2*ps.length+2+1+1+1+cd.length=p+1+1+1+2*ps.length+(0+1+1)+1+1+(cd.length+1) by omega,j3];simp only;rw[k3];simp only[Ai0,Als,List.length_append,List.length_cons,List.length_nil,Dj,Ajp,List.length_map]
 congr 2
 omega
structure FilB (f:Rd.Fil):Prop where
 c6:f.classes.length≤6
 cb:∀ c∈f.classes,ClsB c
 m1:1≤f.methods.length
 m6:f.methods.length≤6
 mb:∀ m∈f.methods,MthB m
theorem Ab6 {f:Rd.Fil} (hf:FilB f):Rd.fil (Aio f) ⟨0,false⟩=(f,⟨(Aio f).length,false⟩):=by
 obtain⟨s,hs⟩:∃ s,s=Aio f:=⟨_,rfl⟩;have h:Lies s 0 (Aio f):=⟨[],by rw[hs];simp⟩;have hL:s.length=(Aio f).length:=by rw[hs]
 rw[← hs];clear hs;obtain⟨cs,ms⟩:=f;have h6:=hf.c6;have m1:=hf.m1;have m6:=hf.m6;simp only at h6 m1 m6;unfold Aio Alj at h;simp only[List.append_assoc]at h;obtain⟨a1,a2⟩:=Ci (n:=83) ⟨by omega,by omega⟩ h;obtain⟨b1,b2⟩:=Ci (n:=77) ⟨by omega,by omega⟩ a2;obtain⟨c1,c2⟩:=Dt (n:=(cs.length:Int)) (a:=0) (b:=6) ⟨by omega,by omega⟩ (by omega) (by omega) b2;obtain⟨d1,d2⟩:=Lies.cut (a:=cs.flatMap Ajg) c2;have d3:=Fu (Rd.cls s) Ajg cs (fun c hc q hq=>Adi (hf.cb c hc) hq) _ d1;obtain⟨e1,e2⟩:=Dt (n:=(ms.length:Int)) (a:=1) (b:=6) ⟨by omega,by omega⟩ (by omega) (by omega) d2;have f3:=Fu (Rd.mth s) Ai0 ms (fun m hm q hq=>Acc (hf.mb m hm) hq) _ e2;unfold Rd.fil;have x1:Rd.ex s 83 ⟨0,false⟩=⟨0+1,false⟩:=by unfold Rd.ex;rw[a1,if_pos rfl]
 have x2:Rd.ex s 77 ⟨0+1,false⟩=⟨0+1+1,false⟩:=by unfold Rd.ex;rw[b1,if_pos rfl]
 simp only[x1,x2,c1,Int.toNat_natCast,d3,e1,f3];rw[hL];simp only[Aio,Alj,List.length_append,List.length_cons,List.length_nil]
theorem Kc {α:Type}{f:Rd.St→α × Rd.St}{P:α→Prop} (h:∀ t,P (f t).1):∀ (n:Nat) (t:Rd.St),∀ x∈(Rd.rep f n t).1,P x
 | 0,_,x,hx=>by simp[Rd.rep]at hx
 | n+1,t,x,hx=>by
  unfold Rd.rep at hx;simp only at hx;rcases List.mem_append.1 hx with hx | hx
  ·exact Kc h n t x hx
  ·rw[List.mem_singleton.1 hx];exact h _
theorem Af6 (s:List UInt8) (t:Rd.St):TyB (Rd.ty s t).1:=⟨Rd.nx_bd s _,Rd.nx_bd s _⟩
theorem Qs (s:List UInt8) (n:Nat) (t:Rd.St):∀ x∈(Rd.tys s n t).1,TyB x:=Kc (Af6 s) n t
theorem Ag2 (s:List UInt8) (t:Rd.St):ClsB (Rd.cls s t).1:=by
 refine⟨Rd.nx_bd s _,?_,Qs s _ _⟩;simp only[Rd.cls,Rd.tys,Rd.rep_len];have:=Rd.cn_bd s 0 4 (Rd.nx s t).2 (by omega);omega
theorem Ag7 (s:List UInt8) (t:Rd.St):HndB (Rd.hnd s t).1:=⟨Rd.nx_bd s _,Rd.nx_bd s _,Rd.nx_bd s _,Rd.nx_bd s _⟩
theorem Ahg (s:List UInt8) (L H:Int) (hL:0≤L) (hH:0≤H) (t:Rd.St):MpB L H (Rd.mp s L H t).1:=by
 refine⟨Rd.nx_bd s _,?_,?_,Qs s _ _,Qs s _ _⟩
 ·simp only[Rd.mp,Rd.tys,Rd.rep_len];omega
 ·simp only[Rd.mp,Rd.tys,Rd.rep_len];have:=Rd.cn_bd s 0 H (Rd.rep (Rd.ty s) L.toNat (Rd.nx s t).2).2 hH;omega
theorem Ahc (s:List UInt8) (t:Rd.St) (h:(Rd.mth s t).2.bad=false):MthB (Rd.mth s t).1:=by
 have hc:=Ry s t h;unfold Rd.mth at hc ⊢;simp only at hc ⊢;refine⟨Rd.nx_bd s _,Rd.nx_bd s _,?_,Qs s _ _,Af6 s _,Rd.cn_bd s _ _ _ (by omega),Rd.cn_bd s _ _ _ (by omega),hc,?_,Kc (Rd.nx_bd s) _ _,?_,Kc (Ag7 s) _ _,?_,Kc (Ahg s _ _ (Rd.cn_bd s _ _ _ (by omega)).1 (Rd.cn_bd s _ _ _ (by omega)).1) _ _⟩
 ·simp only[Rd.tys,Rd.rep_len];have:=Rd.cn_bd s 0 4 (Rd.nx s (Rd.nx s t).2).2 (by omega);omega
 ·simp only[Rd.codes,Rd.rep_len];have h1:=Rd.cn_bd s 1 120;generalize (Rd.cn s 0 8 _).2=u;have:=h1 u (by omega);omega
 ·simp only[Rd.hnds,Rd.rep_len];have h1:=Rd.cn_bd s 0 4;generalize (Rd.codes s _).2=u;have:=h1 u (by omega);omega
 ·simp only[Rd.mps,Rd.rep_len];have h1:=Rd.cn_bd s 0 64;generalize (Rd.hnds s _).2=u;have:=h1 u (by omega);omega
theorem Ad6 (s:List UInt8):∀ (n:Nat) (t:Rd.St),(Rd.rep (Rd.mth s) n t).2.bad=false→∀ m∈(Rd.rep (Rd.mth s) n t).1,MthB m
 | 0,_,_,m,hm=>by simp[Rd.rep]at hm
 | n+1,t,h,m,hm=>by
  unfold Rd.rep at h hm;simp only at h hm;rcases List.mem_append.1 hm with hm | hm
  ·refine Ad6 s n t ?_ m hm;cases hc:(Rd.rep (Rd.mth s) n t).2.bad with
   | false=>rfl
   | true=>rw[Oa s _ hc]at h;cases h
  ·rw[List.mem_singleton.1 hm];exact Ahc s _ h
theorem Af5 (s:List UInt8) (a b:Int) (t:Rd.St) (h:(Rd.cn s a b t).2.bad=false):a≤(Rd.cn s a b t).1:=by
 unfold Rd.cn at h ⊢
 split at h
 ·cases h
 ·split at h
  ·cases h
  ·next h1 h2=>rw[if_neg h1,if_neg h2];omega
theorem Abx (s:List UInt8) (h:(Rd.read s).2=0):FilB (Rd.read s).1:=by
 unfold Rd.read at h ⊢;by_cases h1:15000<s.length
 ·rw[if_pos h1]at h;simp at h
 rw[if_neg h1]at h ⊢;by_cases h2:(Rd.fil s ⟨0,false⟩).2.bad=true∨(Rd.fil s ⟨0,false⟩).2.pos≠s.length
 ·rw[if_pos h2]at h;simp at h
 rw[if_neg h2];have hb:(Rd.fil s ⟨0,false⟩).2.bad=false:=by
  cases hb:(Rd.fil s ⟨0,false⟩).2.bad with
  | false=>rfl
  | true=>exact absurd (.inl hb) h2
 unfold Rd.fil at hb ⊢;simp only at hb ⊢;generalize Rd.ex s 77 (Rd.ex s 83 ⟨0,false⟩)=u at *;have c1:=Rd.cn_bd s 0 6 u (by omega);generalize Rd.cn s 0 6 u=n at *;have hC:∀ c∈(Rd.rep (Rd.cls s) n.1.toNat n.2).1,ClsB c:=Kc (Ag2 s) _ _;have hl:(Rd.rep (Rd.cls s) n.1.toNat n.2).1.length=n.1.toNat:=Rd.rep_len _ _ _;generalize Rd.rep (Rd.cls s) n.1.toNat n.2=cs at *;have m1:=Rd.cn_bd s 1 6 cs.2 (by omega);have m2:=Af5 s 1 6 cs.2;generalize Rd.cn s 1 6 cs.2=m at *;have m3:m.2.bad=false:=by
  cases hc:m.2.bad with
  | false=>rfl
  | true=>rw[Fq (Oa s) _ _ hc]at hb;cases hb
 have m4:=m2 m3;refine⟨by simp only;omega,hC,?_,?_,Ad6 s _ _ hb⟩
 ·simp only[Rd.rep_len];omega
 ·simp only[Rd.rep_len];omega
theorem N8 {f:Rd.Fil} (hf:FilB f) (hl:(Aio f).length≤15000):Rd.read (Aio f)=(f,0):=by
 unfold Rd.read;rw[if_neg (by omega),Ab6 hf,if_neg (by simp)]
theorem Jr (c:List Int):∀ (k p0:Nat),c.length≤p0+k→∀ (d r:List Nat) (p:Nat),Cd.starts c k p0=d++p::r→p+Cd.wd (c.getD p 0)<c.length→∃ r',r=(p+Cd.wd (c.getD p 0))::r'
 | 0,p0,_,d,r,p,h,_=>by simp[Cd.starts]at h
 | k+1,p0,hk,d,r,p,h,hl=>by
  unfold Cd.starts at h;by_cases hp:p0<c.length
  ·rw[if_pos hp]at h;have hw:=Cd.wd_bd (c.getD p0 0);cases d with
   | nil =>
    simp only[List.nil_append,List.cons.injEq]at h;obtain⟨rfl,rfl⟩:=h;obtain⟨j,rfl⟩:∃ j,k=j+1:=⟨k-1,by omega⟩;unfold Cd.starts;rw[if_pos hl];exact⟨_,rfl⟩
   | cons e d =>
    simp only[List.cons_append,List.cons.injEq]at h;exact Jr c k _ (by omega) d r p h.2 hl
  ·rw[if_neg hp]at h;simp at h
theorem Rv {c:List Int}{d r:List Nat}{p:Nat} (h:Cd.places c=d++p::r) (hl:p+Cd.wd (c.getD p 0)<c.length):∃ r',r=(p+Cd.wd (c.getD p 0))::r':=Jr c c.length 0 (by omega) d r p h hl
theorem Ek {T:List Int}{mp:Int→Option Ahh}{p:Int}{lo:List (Int × Int)}:∀ {hs:List Rd.Hnd},Ajy T mp p lo hs=0↔∀ h∈hs,Aic h p=true→∃ z,mp h.target=some z∧Aho T ⟨lo,[(3,h.cl)]⟩ z=true
 | []=>by simp[Ajy]
 | h::r=>by
  have ih:=Ek (T:=T) (mp:=mp) (p:=p) (lo:=lo) (hs:=r);unfold Ajy;have hcov:Aic h p=true↔h.frm≤p∧p<h.til:=by unfold Aic;simp
  by_cases h1:p<h.frm
  ·rw[if_pos h1,ih]
   constructor
   ·intro g x hx hc;rcases List.mem_cons.1 hx with rfl | hx
    ·have:=(hcov.1 hc).1;omega
    ·exact g x hx hc
   ·exact fun g x hx=>g x (by simp[hx])
  rw[if_neg h1];by_cases h2:h.til≤p
  ·rw[if_pos h2,ih]
   constructor
   ·intro g x hx hc;rcases List.mem_cons.1 hx with rfl | hx
    ·have:=(hcov.1 hc).2;omega
    ·exact g x hx hc
   ·exact fun g x hx=>g x (by simp[hx])
  rw[if_neg h2];have hc:Aic h p=true:=hcov.2 ⟨by omega,by omega⟩;cases hz:mp h.target with
  | none =>
   simp only[Option.isSome_none,if_true]
   constructor
   ·intro g;omega
   ·intro g;obtain⟨z,e,_⟩:=g h (by simp) hc;rw[hz]at e;cases e
  | some z =>
   rw[if_neg (show ¬ (some z).isSome=false by simp),show Ah2 (some z)=z from rfl];by_cases hf:Aho T ⟨lo,[(3,h.cl)]⟩ z=true
   ·rw[if_neg (show ¬ Aho T ⟨lo,[(3,h.cl)]⟩ z=false by rw[hf];simp),ih]
    constructor
    ·intro g x hx hcx;rcases List.mem_cons.1 hx with rfl | hx
     ·exact⟨z,hz,hf⟩
     ·exact g x hx hcx
    ·exact fun g x hx=>g x (by simp[hx])
   ·rw[if_pos (show Aho T ⟨lo,[(3,h.cl)]⟩ z=false by simpa using hf)]
    constructor
    ·intro g;omega
    ·intro g;obtain⟨z',e,e2⟩:=g h (by simp) hc;rw[hz]at e;cases e;exact absurd e2 hf
theorem Ow {T:List Int}{mp:Int→Option Ahh}{H:Int}{R:Option Ahh}{op n nxt len:Int}:Ako T mp H R op n nxt len=0 ↔
  H=0∧∃ y,R=some y∧(Ah1 op=true→∃ z,mp n=some z∧Aho T y z=true)∧(Aih op=true→nxt<len∧∀ z,mp nxt=some z→Aho T y z=true):=by
 unfold Ako;by_cases h1:H=0
 ·rw[if_neg (fun g=>g h1)];cases R with
  | none=>simp
  | some y =>
   rw[if_neg (show ¬ (some y).isSome=false by simp),show Ah2 (some y)=y from rfl]
   constructor
   ·intro h;refine⟨h1,y,rfl,?_,?_⟩
    ·intro hj;by_cases h2:(mp n).isSome=false
     ·rw[if_pos ⟨hj,h2⟩]at h;omega
     rw[if_neg (fun g=>h2 g.2)]at h;cases hz:mp n with
     | none=>rw[hz]at h2;simp at h2
     | some z =>
      rw[hz,show Ah2 (some z)=z from rfl]at h;by_cases h3:Aho T y z=false
      ·rw[if_pos ⟨hj,h3⟩]at h;omega
      ·exact⟨z,rfl,by simpa using h3⟩
    ·intro hg
     split at h
     ·omega
     split at h
     ·omega
     rw[if_neg (by rw[hg];simp)]at h
     split at h
     ·omega
     ·next hl =>
      refine⟨by omega,fun z hz=>?_⟩;rw[hz,show Ah2 (some z)=z from rfl]at h;by_cases h3:Aho T y z=false
      ·rw[if_pos ⟨rfl,h3⟩]at h;omega
      ·simpa using h3
   ·rintro ⟨-,y',e,hj,hg⟩;cases e;rw[if_neg (by
     rintro ⟨a,b⟩;obtain⟨z,hz,_⟩:=hj a;rw[hz]at b;simp at b),if_neg (by
     rintro ⟨a,b⟩;obtain⟨z,hz,hf⟩:=hj a;rw[hz,show Ah2 (some z)=z from rfl,hf]at b;cases b)]
    by_cases hgo:Aih op=true
    ·obtain⟨hl,hz⟩:=hg hgo;rw[if_neg (by rw[hgo];simp),if_neg (by omega),if_neg (by
      rintro ⟨a,b⟩;obtain⟨z,e⟩:=Option.isSome_iff_exists.1 a;rw[e,show Ah2 (some z)=z from rfl,hz z e]at b;cases b)]
    ·rw[if_pos (by simpa using hgo)]
 ·rw[if_pos h1]
  constructor
  ·intro h;exact absurd h h1
  ·intro h;exact absurd h.1 h1
theorem Hl {ah:Nat→Option Ahh}{lk:Nat→Ahh→Int}:∀ {l:List Nat},(Aj8 ah lk l).1=0↔∀ p∈l,∀ x,ah p=some x→lk p x=0
 | []=>by simp[Aj8]
 | p::r=>by
  have ih:=Hl (ah:=ah) (lk:=lk) (l:=r);unfold Aj8;cases hp:ah p with
  | none =>
   simp only;rw[ih]
   constructor
   ·intro g q hq x hx;rcases List.mem_cons.1 hq with rfl | hq
    ·rw[hp]at hx;cases hx
    ·exact g q hq x hx
   ·exact fun g q hq=>g q (by simp[hq])
  | some x =>
   simp only;by_cases h:lk p x=0
   ·rw[if_neg (fun g=>g h),ih]
    constructor
    ·intro g q hq y hy;rcases List.mem_cons.1 hq with rfl | hq
     ·rw[hp]at hy;cases hy;exact h
     ·exact g q hq y hy
    ·exact fun g q hq=>g q (by simp[hq])
   ·rw[if_pos h]
    constructor
    ·intro g;exact absurd g h
    ·intro g;exact absurd (g p (by simp) x hp) h
theorem Gh {cs:List Rd.Cls}{ms:List Rd.Mth}{m:Rd.Mth}{d r:List Nat}{q:Nat} (h:Cd.places m.code=d++q::r) :
  Ai3 cs ms m q=(Ah9 m (q:Int)).or (d.foldl (fun o p=>Akc (fun p=>Ah9 m (p:Int)) (Aik cs ms m) (fun p=>Aih (m.code.getD p 0)) p o) (some (Ail m))):=by
 have hl:=Og m.code;unfold Ai3;rw[h]at hl ⊢;exact J2 _ _ _ q r d _ (fun p hp=>(List.pairwise_append.1 hl).2.2 p hp q (by simp))
theorem Lp {cs:List Rd.Cls}{ms:List Rd.Mth}{m:Rd.Mth} (hc:0<m.code.length):Ai3 cs ms m 0=(Ah9 m 0).or (some (Ail m)):=by
 obtain⟨r,hr⟩:∃ r,Cd.places m.code=[]++0::r:=by
  unfold Cd.places;cases hn:m.code.length with
  | zero=>omega
  | succ n =>
   unfold Cd.starts;rw[if_pos hc];exact⟨_,rfl⟩
 rw[Gh hr];rfl
theorem Lo {cs:List Rd.Cls}{ms:List Rd.Mth}{m:Rd.Mth}{p:Nat} (hp:p∈Cd.places m.code) (hl:p+Cd.wd (m.code.getD p 0)<m.code.length) :
  Ai3 cs ms m (p+Cd.wd (m.code.getD p 0))=(Ah9 m ((p+Cd.wd (m.code.getD p 0):Nat):Int)).or ((Ai3 cs ms m p).bind fun x=>(Aik cs ms m p x).bind fun z=>if Aih (m.code.getD p 0)=true then some z else none):=by
 obtain⟨d,r,h⟩:=List.append_of_mem hp;obtain⟨r',rfl⟩:=Rv h hl;rw[Gh (d:=d++[p]) (r:=r') (by rw[h];simp),Gh h,List.foldl_append];rfl
def Amj (cs:List Rd.Cls) (ms:List Rd.Mth) (m:Rd.Mth) (q:Nat):Option Ahh:=if q∈Cd.places m.code then Ai3 cs ms m q else none
theorem Ge {cs:List Rd.Cls}{ms:List Rd.Mth}{m:Rd.Mth}{q:Nat} (h:q∈Cd.places m.code):Amj cs ms m q=Ai3 cs ms m q:=if_pos h
theorem Ez {cs:List Rd.Cls}{ms:List Rd.Mth}{m:Rd.Mth}{q:Nat} (h:q∈Cd.places m.code) {z:Ahh} (hz:Ah9 m (q:Int)=some z):Ai3 cs ms m q=some z:=by
 obtain⟨d,r,h⟩:=List.append_of_mem h;rw[Gh h,hz];rfl
theorem Mn {cs:List Rd.Cls}{ms:List Rd.Mth} (k:Ajl cs ms) {m:Rd.Mth} (hm:m∈ms) {q:Nat} (hq:q∈Cd.places m.code) {x:Ahh} (h:Ai3 cs ms m q=some x):Ajn (Tr.tree cs) m x:=by
 have g:=k.mt m hm;obtain⟨d,r,hs⟩:=List.append_of_mem hq;rw[Gh hs]at h;have key:∀ (d:List Nat) (o:Option Ahh),(∀ p∈d,p∈Cd.places m.code)→(∀ y,o=some y→Ajn (Tr.tree cs) m y)→∀ y,d.foldl (fun o p=>Akc (fun p=>Ah9 m (p:Int)) (Aik cs ms m) (fun p=>Aih (m.code.getD p 0)) p o) o=some y→Ajn (Tr.tree cs) m y:=by
  intro d
  induction d with
  | nil=>intro o _ ho y hy;exact ho y hy
  | cons p d ih =>
   intro o hd ho y hy;refine ih _ (fun p hp=>hd p (by simp[hp])) (fun z hz=>?_) y hy;unfold Akc at hz;simp only at hz;cases e:(Ah9 m (p:Int)).or o with
   | none=>rw[e]at hz;cases hz
   | some u =>
    rw[e]at hz;simp only[Option.bind_some]at hz;have hu:Ajn (Tr.tree cs) m u:=by
     cases e2:Ah9 m (p:Int) with
     | none=>rw[e2]at e;exact ho u e
     | some v=>rw[e2]at e;cases e;exact Gk g e2
    cases e3:Aik cs ms m p u with
    | none=>rw[e3]at hz;cases hz
    | some v =>
     rw[e3]at hz;simp only[Option.bind_some]at hz
     split at hz
     ·cases hz;exact Gf k hm (hd p (by simp)) hu e3
     ·cases hz
 cases e2:Ah9 m (q:Int) with
 | none =>
  rw[e2]at h;exact key d _ (fun p hp=>by rw[hs];simp[hp]) (fun y hy=>by cases hy;exact Gu g) x h
 | some v=>rw[e2]at h;cases h;exact Gk g e2
theorem Jp {cs:List Rd.Cls}{ms:List Rd.Mth}{m:Rd.Mth}:(Aji cs ms m).1=0↔(∀ z,Ah9 m 0=some z→Aho (Tr.tree cs) (Ail m) z=true)∧∀ p∈Cd.places m.code,∀ x,Ai3 cs ms m p=some x→All cs ms m p x=0:=by
 unfold Aji Alq;cases hz:Ah9 m 0 with
 | none =>
  rw[if_neg (by simp),Hl]
  simp
 | some z =>
  rw[show Ah2 (some z)=z from rfl];by_cases hf:Aho (Tr.tree cs) (Ail m) z=true
  ·rw[if_neg (fun g=>by rw[hf]at g;cases g.2),Hl]
   constructor
   ·intro h;exact⟨fun z' e=>by cases e;exact hf,h⟩
   ·intro h;exact h.2
  ·rw[if_pos ⟨rfl,by simpa using hf⟩]
   constructor
   ·intro h;simp at h
   ·intro h;exact absurd (h.1 z rfl) hf
theorem checked_sol {cs:List Rd.Cls}{ms:List Rd.Mth} (k:Ajl cs ms) {m:Rd.Mth} (hm:m∈ms) (hc:0<m.code.length) (h:(Aji cs ms m).1=0) :
  Ala (Ah4 cs ms m) (Amj cs ms m)∧∀ p∈Cd.places m.code,Amj cs ms m p≠none→∀ q,Amd (Ah4 cs ms m) p q→∃ z,Ah9 m (q:Int)=some z∧Amj cs ms m q=some z:=by
 have g:=k.mt m hm;have gE:=Eo k hm hc;have hT:Tr.Ok (Tr.tree cs):=k.ok;obtain⟨h0,h1⟩:=Jp.1 h;have fit:∀ {x y:Ahh},Ajn (Tr.tree cs) m x→Ajn (Tr.tree cs) m y→Aho (Tr.tree cs) x y=true→Ah6 (Tr.tree cs) x y:=fun hx hy hf=>Il.1 (by rw[← Ev hT (Ff hx) (Ff hy)];exact hf);have lk:∀ p∈Cd.places m.code,∀ x,Ai3 cs ms m p=some x→_:=fun p hp x hx=>Ow.1 (show Ako _ _ _ _ _ _ _ _=0 from h1 p hp x hx);have inv:∀ p x,Amj cs ms m p=some x→Ajn (Tr.tree cs) m x:=by
  intro p x hx;unfold Amj at hx;by_cases hp:p∈Cd.places m.code
  ·rw[if_pos hp]at hx;exact Mn k hm hp hx
  ·rw[if_neg hp]at hx;cases hx
 have hI:∀ {h':Rd.Hnd}{x:Ahh}{z:Ahh},h'∈m.handlers→Ajn (Tr.tree cs) m x→Ajn (Tr.tree cs) m z→Aho (Tr.tree cs) ⟨x.locals,[(3,h'.cl)]⟩ z=true→Ah6 (Tr.tree cs) (Aip x h') z:=by
  intro h' x z hh hx hz hf;refine Il.1 ?_;rw[← Ev hT ?_ (Ff hz)]
  ·exact hf
  ·refine⟨fun t ht=>(hx.tl t ht).1,fun t ht=>?_⟩;have:t=(3,h'.cl):=by simpa[Aip] using ht
   rw[this];exact(gE.hnd h' hh).2.2.2
 refine⟨⟨inv,?_,?_⟩,?_⟩
 ·have hz:=Lf hc;rw[Ge hz,Lp hc];cases e:Ah9 m 0 with
  | none=>exact⟨_,rfl,.refl _ _⟩
  | some z=>exact⟨z,rfl,fit (Gu g) (Gk g e) (h0 z e)⟩
 ·intro p hp x hx;have hp':p∈Cd.places m.code:=hp;have hP:=inv p x hx;rw[Ge hp']at hx;obtain⟨a1,y,a2,a3,a4⟩:=lk p hp' x hx;have hy:=Gf k hm hp' hP a2;refine⟨⟨y,a2⟩,?_⟩;intro q u b hg;cases hg using Akb.el with
  | hnd h' hh hcov =>
   obtain⟨z,e1,e2⟩:=Ek.1 a1 h' hh hcov;have gh:=gE.hnd h' hh;have eq:((h'.target.toNat:Nat):Int)=h'.target:=by omega
   have hz:=Gk g e1;have hl:=hI hh hP hz e2;refine⟨gh.1,gh.2.1,?_,⟨z,?_,hl⟩,fun _=>trivial⟩
   ·have:=hl.st.len;have:=hz.hi;show ((Aip x h').stack.length:Int)≤m.stack;omega
   ·rw[Ge gh.2.2.1];exact Ez gh.2.2.1 (by rw[eq];exact e1)
  | jmp u hu hj =>
   have:u=y:=by have:=hu.symm.trans a2;cases this;rfl
   subst this;obtain⟨z,e1,e2⟩:=a3 hj;have gt:=gE.tgt p hp hj;have eq:((((Ah4 cs ms m).ar p).toNat:Nat):Int)=(Ah4 cs ms m).ar p:=by omega
   have hz:=Gk g e1;refine⟨gt.1,gt.2.1,hy.hi,⟨z,?_,fit hy hz e2⟩,fun _=>trivial⟩;rw[Ge gt.2.2];exact Ez gt.2.2 (by rw[eq];exact e1)
  | nxt u hu hgo =>
   have:u=y:=by have:=hu.symm.trans a2;cases this;rfl
   subst this;obtain⟨e1,e2⟩:=a4 hgo;have hn:p+Cd.wd (m.code.getD p 0)<m.code.length:=by omega
   have eq:((Ah4 cs ms m).nx p).toNat=p+Cd.wd (m.code.getD p 0):=by
    show ((p:Int)+(Cd.wd (m.code.getD p 0):Int)).toNat=_;omega
   have hpn:=Lm hp' hn;have hen:(Ah4 cs ms m).nx p=((p+Cd.wd (m.code.getD p 0):Nat):Int):=by
    show (p:Int)+(Cd.wd (m.code.getD p 0):Int)=_;omega
   have hgo':Aih (m.code.getD p 0)=true:=hgo;refine⟨by rw[hen];omega,by rw[hen];exact e1,hy.hi,?_,fun h=>(by cases h)⟩;rw[eq,Ge hpn,Lo hp' hn,hx];simp only[Option.bind_some];have a2':Aik cs ms m p x=some u:=a2;rw[a2',Option.bind_some,if_pos hgo'];cases e:Ah9 m ((p+Cd.wd (m.code.getD p 0):Nat):Int) with
   | none=>exact⟨u,rfl,.refl _ _⟩
   | some z=>exact⟨z,rfl,fit hy (Gk g e) (e2 z e)⟩
 ·intro p hp hne q ha;cases hx:Amj cs ms m p with
  | none=>exact absurd hx hne
  | some x =>
   rw[Ge hp]at hx;obtain⟨a1,y,a2,a3,a4⟩:=lk p hp x hx;rcases ha with ⟨h',hh,hcov,rfl⟩ | ⟨hj,rfl⟩
   ·obtain⟨z,e1,e2⟩:=Ek.1 a1 h' hh hcov;have gh:=gE.hnd h' hh;have eq:((h'.target.toNat:Nat):Int)=h'.target:=by omega
    refine⟨z,by rw[eq];exact e1,?_⟩;rw[Ge gh.2.2.1];exact Ez gh.2.2.1 (by rw[eq];exact e1)
   ·obtain⟨z,e1,e2⟩:=a3 hj;have gt:=gE.tgt p hp hj;have eq:((((Ah4 cs ms m).ar p).toNat:Nat):Int)=(Ah4 cs ms m).ar p:=by omega
    refine⟨z,by rw[eq];exact e1,?_⟩;rw[Ge gt.2.2];exact Ez gt.2.2 (by rw[eq];exact e1)
theorem Li (c:List Int):∀ (k p0 q:Nat),q∈Cd.starts c k p0→q=p0∨∃ p∈Cd.starts c k p0,q=p+Cd.wd (c.getD p 0)
 | 0,p0,q,h=>by simp[Cd.starts]at h
 | k+1,p0,q,h=>by
  unfold Cd.starts at h ⊢;by_cases hp:p0<c.length
  ·rw[if_pos hp]at h ⊢;rcases List.mem_cons.1 h with rfl | h
   ·exact .inl rfl
   ·rcases Li c k _ q h with e|⟨p,h1,h2⟩
    ·exact .inr ⟨p0,by simp,e⟩
    ·exact .inr ⟨p,List.mem_cons_of_mem _ h1,h2⟩
  ·rw[if_neg hp]at h;simp at h
theorem Tl {cs:List Rd.Cls}{ms:List Rd.Mth} (k:Ajl cs ms) {m:Rd.Mth} (hm:m∈ms) (hc:0<m.code.length) {F:Nat→Option Ahh} (hF:Ala (Ah4 cs ms m) F)
  (hM:∀ (q:Nat) z,Ah9 m (q:Int)=some z→F q=some z) (hA:∀ p∈Cd.places m.code,F p≠none→∀ q,Amd (Ah4 cs ms m) p q→∃ z,Ah9 m (q:Int)=some z):(Aji cs ms m).1=0:=by
 have g:=k.mt m hm;have gE:=Eo k hm hc;have hT:Tr.Ok (Tr.tree cs):=k.ok;have fit:∀ {x y:Ahh},Ah7 (Tr.tree cs) x→Ah7 (Tr.tree cs) y→Ah6 (Tr.tree cs) x y→Aho (Tr.tree cs) x y=true:=fun hx hy h=>by rw[Ev hT hx hy];exact Il.2 h
 have aI:∀ {p x},F p=some x→Ah7 (Tr.tree cs) x:=fun h=>(hF.inv _ _ h).arg;have key:∀ p,p∈Cd.places m.code→∀ x,Ai3 cs ms m p=some x→∃ z,F p=some z∧Ah6 (Tr.tree cs) x z:=by
  intro p
  induction p using Nat.strongRecOn with
  | _ p ih =>
   intro hp x hx;cases e:Ah9 m (p:Int) with
   | some z =>
    rw[Ez hp e]at hx;cases hx;exact⟨x,hM p x e,.refl _ _⟩
   | none =>
    rcases Li m.code _ 0 p hp with rfl|⟨p',h1,h2⟩
    ·rw[Lp hc,show Ah9 m 0=none from e]at hx;cases hx;exact hF.x0
    ·have hp':p'∈Cd.places m.code:=h1;have hl:=Jq hp;have hw:=Cd.wd_bd (m.code.getD p' 0);rw[h2]at hl hx e ⊢;rw[Lo hp' hl,e]at hx;cases ea:Ai3 cs ms m p' with
     | none=>rw[ea]at hx;cases hx
     | some x' =>
      rw[ea]at hx;simp only[Option.bind_some,Option.or]at hx;cases er:Aik cs ms m p' x' with
      | none=>rw[er]at hx;cases hx
      | some u =>
       rw[er]at hx;simp only[Option.bind_some]at hx
       split at hx
       ·next hgo =>
        cases hx;obtain⟨z',hz',hle⟩:=ih p' (by omega) hp' x' ea;have hPx:=Mn k hm hp' ea;have hPz:=hF.inv _ _ hz';have sat:=hF.sat p' hp' z' hz';obtain⟨y',hy'⟩:=sat.rl;obtain⟨u',hu',hle2⟩:=gE.mono p' hp' x' z' y' hPx hPz hle hy';have:u'=x:=by have:=hu'.symm.trans er;cases this;rfl
        subst this;obtain⟨_,_,_,⟨v,hv,hle3⟩,_⟩:=sat.go _ _ _ (.nxt y' hy' hgo);have en:((Ah4 cs ms m).nx p').toNat=p'+Cd.wd (m.code.getD p' 0):=by
         show ((p':Int)+(Cd.wd (m.code.getD p' 0):Int)).toNat=_;omega
        rw[en]at hv;exact⟨v,hv,hle2.trans gE hle3 (Ff (Gf k hm hp' hPx er)) (gE.rl p' hp' z' y' hPz hy').arg (aI hv)⟩
       ·cases hx
 refine Jp.2 ⟨fun z hz=>?_,fun p hp x hx=>?_⟩
 ·obtain⟨y,hy,hle⟩:=hF.x0;have:=hM 0 z hz;rw[this]at hy;cases hy;exact fit (Ff (Gu g)) (aI this) hle
 ·obtain⟨z,hz,hle⟩:=key p hp x hx;have hPx:=Mn k hm hp hx;have hPz:=hF.inv _ _ hz;have sat:=hF.sat p hp z hz;obtain⟨y,hy⟩:=sat.rl;obtain⟨u,hu,hle2⟩:=gE.mono p hp x z y hPx hPz hle hy;have aU:=Ff (Gf k hm hp hPx hu);have aY:=(gE.rl p hp z y hPz hy).arg;have hne:F p≠none:=by rw[hz];simp
  refine Ow.2 ⟨Ek.2 fun h' hh hcov=>?_,u,hu,fun hj=>?_,fun hgo=>?_⟩
  ·have gh:=gE.hnd h' hh;have eq:((h'.target.toNat:Nat):Int)=h'.target:=by omega
   obtain⟨_,_,_,⟨v,hv,hle3⟩,_⟩:=sat.go _ _ _ (.hnd h' hh hcov);obtain⟨z2,h2⟩:=hA p hp hne _ (.inl ⟨h',hh,hcov,rfl⟩);have h3:=hM _ _ h2;rw[hv]at h3;cases h3;rw[eq]at h2;have aC:∀ {w:Ahh},Ajn (Tr.tree cs) m w→Ah7 (Tr.tree cs) (Aip w h'):=fun hw=>⟨fun t ht=>(hw.tl t ht).1,fun t ht=>by
    have:t=(3,h'.cl):=by simpa[Aip] using ht
    rw[this];exact gh.2.2.2⟩
   refine⟨v,h2,fit (aC hPx) (aI hv) ?_⟩;exact Ah6.trans gE (y:=Aip z h') ⟨hle.lo,.refl _ _⟩ hle3 (aC hPx) (aC hPz) (aI hv)
  ·have gt:=gE.tgt p hp hj;have eq:((((Ah4 cs ms m).ar p).toNat:Nat):Int)=(Ah4 cs ms m).ar p:=by omega
   obtain⟨_,_,_,⟨v,hv,hle3⟩,_⟩:=sat.go _ _ _ (.jmp y hy hj);obtain⟨z2,h2⟩:=hA p hp hne _ (.inr ⟨hj,rfl⟩);have h3:=hM _ _ h2;rw[hv]at h3;cases h3;rw[eq]at h2;exact⟨v,h2,fit aU (aI hv) (hle2.trans gE hle3 aU aY (aI hv))⟩
  ·obtain⟨h0,h1,_,⟨v,hv,hle3⟩,_⟩:=sat.go _ _ _ (.nxt y hy hgo);have en:(Ah4 cs ms m).nx p=((p+Cd.wd (m.code.getD p 0):Nat):Int):=by
    show (p:Int)+(Cd.wd (m.code.getD p 0):Int)=_;omega
   rw[en]at h1 hv;refine⟨h1,fun z2 h2=>?_⟩;have h3:=hM _ _ h2;rw[Int.toNat_natCast,h3]at hv;cases hv;exact fit aU (aI h3) (hle2.trans gE hle3 aU aY (aI h3))
theorem Sr (T:List Int) (ms:List Rd.Mth) (k:Nat) (m:Rd.Mth):Aku T (ms.map Rd.Mth.bare) k m.bare=Aku T ms k m:=by
 have e1:Akf T m.bare=Akf T m:=rfl;have e2:Akk ((ms.map Rd.Mth.bare).take k) m.bare=Akk (ms.take k) m:=by
  unfold Akk;rw[← List.map_take,List.any_map];rfl
 have e3:Ajf T (ms.map Rd.Mth.bare) m.bare=Ajf T ms m:=by
  unfold Ajf;rw[List.any_map];rfl
 unfold Aku;rw[e1,e2,e3]
theorem Iu (T:List Int) (ms:List Rd.Mth):∀ (l:List Rd.Mth) (k:Nat),Aiq T (ms.map Rd.Mth.bare) k (l.map Rd.Mth.bare)=Aiq T ms k l
 | [],_=>rfl
 | m::r,k=>by
  rw[List.map_cons,Aiq,Aiq,Sr,Iu T ms r (k+1)]
theorem Jv (T:List Int) (nf:Int) (ow:List Int):∀ (l:List Rd.Mth) (k:Nat),(Ain T nf ow k l).1=0↔∀ m∈l,(Ajt T nf ow m).1=0
 | [],_=>by simp[Ain]
 | m::r,k=>by
  have ih:=Jv T nf ow r (k+1);unfold Ain;by_cases h:(Ajt T nf ow m).1=0
  ·rw[if_neg (fun g=>g h),ih];simp[h]
  ·rw[if_pos h]
   constructor
   ·intro g;exact absurd g h
   ·intro g;exact absurd (g m (by simp)) h
theorem Pt (T:List Int) (nf:Int) (ow:List Int) (m:Rd.Mth):(Ajt T nf ow m).1=0↔(Ajt T nf ow m.bare).1=0∧Cd.mapsBad T m.code 0 (-1) m.maps<0:=by
 have e:Cd.inMaps T (Cd.insts m.code) 0 0 m.maps=Cd.mapsBad T m.code 0 (-1) m.maps:=Cd.inMaps_eq T m.code m.maps 0 0;have e0:Cd.inMaps T (Cd.insts m.code) 0 0 ([]:List Rd.Mp) = -1:=by rw[Cd.inMaps_eq];rfl
 unfold Ajt Rd.Mth.bare;simp only;rw[e,e0];unfold Cd.faultOf;by_cases h1:0≤Cd.unread m.code
 ·rw[if_pos h1,if_pos h1];simp
 rw[if_neg h1,if_neg h1]
 split
 ·simp
 ·split
  ·simp
  ·simp only[show ((-1:Int)<0) by omega,if_true,true_and]
   split
   ·next h=>simp[h]
   ·next h=>simp[h]
theorem Ab4 {ms r:List Rd.Mth} (h:r.map Rd.Mth.bare=ms.map Rd.Mth.bare):r.map Rd.Mth.cl=ms.map Rd.Mth.cl:=by
 have:=congrArg (List.map Rd.Mth.cl) h
 simpa[List.map_map,Function.comp_def,Rd.Mth.bare] using this
theorem Rj {ms r:List Rd.Mth} (h:r.map Rd.Mth.bare=ms.map Rd.Mth.bare) {m:Rd.Mth} (hm:m∈r):∃ m0∈ms,m0.bare=m.bare:=by
 have:m.bare∈ms.map Rd.Mth.bare:=by rw[← h];exact List.mem_map.2 ⟨m,hm,rfl⟩
 exact List.mem_map.1 this
theorem W3 {cs:List Rd.Cls}{ms r:List Rd.Mth} (hb:r.map Rd.Mth.bare=ms.map Rd.Mth.bare) (h:(Ajm ⟨cs,ms⟩).1=0) (hm:∀ m∈r,Cd.mapsBad (Tr.tree cs) m.code 0 (-1) m.maps<0):(Ajm ⟨cs,r⟩).1=0:=by
 unfold Ajm at h ⊢;simp only at h ⊢;by_cases h1:(Tr.inCl (Tr.tree cs) 0 cs).1≠0
 ·rw[if_pos h1]at h;exact absurd h h1
 rw[if_neg h1]at h ⊢;unfold Alu at h ⊢;have eh:Aiq (Tr.tree cs) r 0 r=Aiq (Tr.tree cs) ms 0 ms:=by rw[← Iu _ r,hb,Iu]
 rw[eh,Ab4 hb];by_cases h2:0≤Aiq (Tr.tree cs) ms 0 ms
 ·rw[if_pos h2]at h;simp at h
 rw[if_neg h2]at h ⊢;rw[Jv]at h ⊢;intro m hmr;obtain⟨m0,h3,h4⟩:=Rj hb hmr;rw[Pt,← h4];exact⟨((Pt _ _ _ _).1 (h m0 h3)).1,hm m hmr⟩
theorem MthB.remap {m m0:Rd.Mth} (h:MthB m0) (e:m0.bare=m.bare) (h6:m.maps.length≤64) (hm:∀ q∈m.maps,MpB m.locals m.stack q):MthB m:=by
 obtain⟨cl,nm,ps,rs,lo,st,cd,hs,mp⟩:=m;obtain⟨cl',nm',ps',rs',lo',st',cd',hs',mp'⟩:=m0;simp only[Rd.Mth.bare,Rd.Mth.mk.injEq,and_true]at e;obtain⟨rfl,rfl,rfl,rfl,rfl,rfl,rfl,rfl⟩:=e;exact⟨h.cl,h.nm,h.pl,h.ps,h.rs,h.lo,h.st,h.c1,h.c2,h.cb,h.h4,h.hb,h6,hm⟩
theorem FilB.remap {cs:List Rd.Cls}{ms r:List Rd.Mth} (h:FilB ⟨cs,ms⟩) (hb:r.map Rd.Mth.bare=ms.map Rd.Mth.bare) (hm:∀ m∈r,m.maps.length≤64∧∀ q∈m.maps,MpB m.locals m.stack q):FilB ⟨cs,r⟩:=by
 have hl:r.length=ms.length:=by simpa using congrArg List.length hb
 have h1:=h.m1;have h6:=h.m6;simp only at h1 h6;refine⟨h.c6,h.cb,by simp only;omega,by simp only;omega,fun m hmr=>?_⟩;obtain⟨m0,h3,h4⟩:=Rj hb hmr;exact(h.mb m0 h3).remap h4 (hm m hmr).1 (hm m hmr).2
theorem Jw {f:Rd.Fil} (hf:FilB f):(Aio f).length≤15000:=by
 obtain⟨cs,ms⟩:=f;have h6:=hf.c6;have m6:=hf.m6;simp only at h6 m6;unfold Aio Alj;simp only[List.length_append,List.length_cons,List.length_nil];have h1:=Fp Ajg 10 cs (fun x hx=>by have:=(hf.cb x hx).fl;simp only[Ajg,List.length_cons,Dj];omega);have h2:=Fp Ai0 2330 ms (fun m hm=>by
  have b:=hf.mb m hm;have g1:=b.pl;have g2:=b.c2;have g3:=b.h4;have g4:=b.lo;have g5:=b.st;have g6:=b.m6;have h3:=Fp Ai6 34 m.maps (fun q hq=>by
   have l1:=(b.mb q hq).lo;have l2:=(b.mb q hq).hi;simp only[Ai6,List.length_cons,List.length_append,Dj];omega)
  have h4:=Fp Aj1 4 m.handlers (fun q _=>by simp[Aj1]);simp only[Ai0,Als,Aj4,Akv,List.length_append,List.length_cons,List.length_nil,Dj,Ajp,List.length_map];omega)
 omega
theorem Qz {s:List UInt8} (h:(Rf.formed s).1=0) {r:List Rd.Mth} (hb:r.map Rd.Mth.bare=(Rd.read s).1.methods.map Rd.Mth.bare) (hm:∀ m∈r,m.maps.length≤64∧(∀ q∈m.maps,MpB m.locals m.stack q)∧Cd.mapsBad (Tr.tree (Rd.read s).1.classes) m.code 0 (-1) m.maps<0) :
  Rd.read (Aio ⟨(Rd.read s).1.classes,r⟩)=(⟨(Rd.read s).1.classes,r⟩,0)∧(Rf.formed (Aio ⟨(Rd.read s).1.classes,r⟩)).1=0:=by
 have hB:=Abx s (Ef h);have hB2:FilB ⟨(Rd.read s).1.classes,r⟩:=FilB.remap (ms:=(Rd.read s).1.methods) hB hb (fun m hmr=>⟨(hm m hmr).1,(hm m hmr).2.1⟩);have e:=N8 hB2 (Jw hB2);refine⟨e,?_⟩;rw[← Br]at h ⊢;unfold Aib at h ⊢;rw[e];rw[if_neg (by simp)];by_cases h0:(Rd.read s).2≠0
 ·rw[if_pos h0]at h;exact absurd h h0
 rw[if_neg h0]at h;exact W3 (ms:=(Rd.read s).1.methods) hb h (fun m hmr=>(hm m hmr).2.2)
theorem Td (ms:List Rd.Mth) (n:Nat):(ms.map Rd.Mth.bare).getD n ⟨0,0,[],(0,0),0,0,[],[],[]⟩=(ms.getD n ⟨0,0,[],(0,0),0,0,[],[],[]⟩).bare:=by
 simp only[List.getD_eq_getElem?_getD,List.getElem?_map];cases ms[n]? <;> rfl
theorem Wp (F:List Rf.Fld) (ms:List Rd.Mth) (res:Int × Int) (op n:Int):Ajj F (ms.map Rd.Mth.bare) res op n=Ajj F ms res op n:=by
 unfold Ajj;rw[Td];rfl
theorem Uz (F:List Rf.Fld) (ms:List Rd.Mth) (op n:Int):Ai5 F (ms.map Rd.Mth.bare) op n=Ai5 F ms op n:=by
 unfold Ai5;rw[Td];rfl
theorem Ou (cs:List Rd.Cls) (ms:List Rd.Mth) (m:Rd.Mth):Aik cs (ms.map Rd.Mth.bare) m.bare=Aik cs ms m:=by
 funext p x
 unfold Aik;rw[Ie,Ie,Wp,Uz];rfl
theorem Adl {cs:List Rd.Cls}{ms r:List Rd.Mth} (hb:r.map Rd.Mth.bare=ms.map Rd.Mth.bare) {m m0:Rd.Mth} (h:m0.bare=m.bare):Ah4 cs r m=Ah4 cs ms m0:=by
 have e:Aik cs r m=Aik cs ms m0:=by rw[← Ou cs r,← Ou cs ms,hb,h]
 unfold Ah4;rw[e];obtain⟨cl,nm,ps,rs,lo,st,cd,hs,mp⟩:=m;obtain⟨cl',nm',ps',rs',lo',st',cd',hs',mp'⟩:=m0;simp only[Rd.Mth.bare,Rd.Mth.mk.injEq,and_true]at h;obtain⟨rfl,rfl,rfl,rfl,rfl,rfl,rfl,rfl⟩:=h;rfl
theorem Zc {T c:List Int}{t:Int × Int} (h:Ahm T (Ak8 c) t):Cd.framed T c t.1 t.2=true:=by
 obtain⟨h,h4⟩:=h;unfold Cd.framed;rcases h with ⟨a,b⟩|⟨a,b⟩|⟨a,b⟩|⟨a,b⟩|⟨a,b⟩
 ·rw[if_pos (.inl a),b];rfl
 ·rw[if_pos (.inr (.inl a)),b];rfl
 ·rw[if_pos (.inr (.inr a)),b];rfl
 ·rw[if_neg (by omega),if_pos a];exact Es.2 b
 ·rw[if_neg (by omega),if_neg (by omega),if_pos a];obtain⟨h1,h2⟩:=h4 a;rw[h1,h2];rfl
theorem Aa3 {T c:List Int} (hT:T.length≤255) (hc:c.length≤255) {t:Int × Int} (h:Ahm T (Ak8 c) t):TyB t:=by
 obtain⟨h,h4⟩:=h;rcases h with ⟨a,b⟩|⟨a,b⟩|⟨a,b⟩|⟨a,b⟩|⟨a,b⟩
 ·exact⟨⟨by omega,by omega⟩,⟨by omega,by omega⟩⟩
 ·exact⟨⟨by omega,by omega⟩,⟨by omega,by omega⟩⟩
 ·exact⟨⟨by omega,by omega⟩,⟨by omega,by omega⟩⟩
 ·exact⟨⟨by omega,by omega⟩,⟨by omega,by omega⟩⟩
 ·have:=Fl (h4 a).1;exact⟨⟨by omega,by omega⟩,⟨by omega,by omega⟩⟩
theorem Rc {T c:List Int}{l:List (Int × Int)} (h:∀ t∈l,Ahm T (Ak8 c) t):Cd.frAll T c l=true:=by
 unfold Cd.frAll;rw[List.all_eq_true];exact fun t ht=>Zc (h t ht)
theorem Io {T c:List Int}:∀ (l:List Aj3) (k i:Nat) (last:Int),last<(k:Int)→(∀ j p,l[j]?=some p→p.wa=true→Cd.begB c ((k+j:Nat):Int)=true∧Cd.frAll T c p.fr.locals=true∧Cd.frAll T c p.fr.stack=true)→Cd.mapsBad T c i last (Ahq k l)<0
 | [],_,_,_,_,_=>by simp[Ahq,Cd.mapsBad]
 | p::r,k,i,last,hl,h=>by
  have hr:∀ j p',r[j]?=some p'→p'.wa=true→Cd.begB c ((k+1+j:Nat):Int)=true∧Cd.frAll T c p'.fr.locals=true∧Cd.frAll T c p'.fr.stack=true:=fun j p' h1 h2=>by
   have:=h (j+1) p' (by simpa using h1) h2
   rwa [show k+(j+1)=k+1+j by omega]at this
  unfold Ahq;by_cases hw:p.wa=true
  ·obtain⟨h1,h2,h3⟩:=h 0 p rfl hw;rw[if_pos hw,Cd.mapsBad];simp only;rw[if_neg (by rw[show ((k:Nat):Int)=((k+0:Nat):Int) by omega,h1];simp),if_neg (by omega),if_neg (by rw[h2];simp),if_neg (by rw[h3];simp)];exact Io r (k+1) (i+1) _ (by omega) hr
  ·rw[if_neg hw];exact Io r (k+1) i last (by omega) hr
theorem Ni:∀ (l:List Aj3) (k:Nat),(∀ q∈Ahq k l,(k:Int)≤q.place)∧(Ahq k l).Pairwise (fun a b=>a.place<b.place)
 | [],_=>by simp[Ahq]
 | p::r,k=>by
  obtain⟨h1,h2⟩:=Ni r (k+1);unfold Ahq;by_cases hw:p.wa=true
  ·rw[if_pos hw];refine⟨fun q hq=>?_,List.pairwise_cons.2 ⟨fun q hq=>?_,h2⟩⟩
   ·rcases List.mem_cons.1 hq with rfl|hq
    ·exact Int.le_refl _
    ·have:=h1 q hq;omega
   ·have:=h1 q hq;show (k:Int)<q.place;omega
  ·rw[if_neg hw];exact⟨fun q hq=>by have:=h1 q hq;omega,h2⟩
theorem Pm {α:Type} [BEq α] [LawfulBEq α]:∀ (l r:List α),l.Nodup→(∀ x∈l,x∈r)→l.length≤r.length
 | [],_,_,_=>Nat.zero_le _
 | x::l,r,hn,h=>by
  have hx:=h x (by simp);obtain⟨h1,h2⟩:=List.nodup_cons.1 hn;have:=Pm l (r.erase x) h2 (fun y hy=>(List.mem_erase_of_ne (fun e=>h1 (by rw[← e];exact hy))).2 (h y (by simp[hy])));have e:=List.length_erase_of_mem hx;have:0<r.length:=List.length_pos_of_mem hx;simp only[List.length_cons];omega
theorem Pc (c:List Int):∀ (k p:Nat),(∀ q∈Cd.starts c k p,q+Cd.wd (c.getD q 0)≤c.length)→p≤c.length→2*((Cd.starts c k p).filter (fun q=>Ah1 (c.getD q 0))).length+p≤c.length
 | 0,p,_,hp=>by simp[Cd.starts];exact hp
 | k+1,p,h,hp=>by
  unfold Cd.starts at h ⊢;by_cases hl:p<c.length
  ·rw[if_pos hl]at h ⊢;have hw:=h p (by simp);have hb:=Cd.wd_bd (c.getD p 0);have ih:=Pc c k (p+Cd.wd (c.getD p 0)) (fun q hq=>h q (List.mem_cons_of_mem _ hq)) hw;rw[List.filter_cons];by_cases hj:Ah1 (c.getD p 0)=true
   ·have h2:Cd.wd (c.getD p 0)=2:=by
     generalize c.getD p 0=op at *;unfold Ah1 at hj;have hop:op=11∨op=12∨op=13∨op=14:=by simpa using hj
     unfold Cd.wd;rw[if_pos (by omega)]
    rw[if_pos hj,List.length_cons];omega
   ·rw[if_neg hj];omega
  ·rw[if_neg hl]
   simpa using hp
theorem Zn {cs:List Rd.Cls}{ms:List Rd.Mth} (k:Ajl cs ms) {m:Rd.Mth} (hm:m∈ms) (hc:0<m.code.length) {mp:List Rd.Mp} (h:Ahu cs ms m=some mp) :
  mp.length≤64∧(∀ q∈mp,MpB m.locals m.stack q)∧Cd.mapsBad (Tr.tree cs) m.code 0 (-1) mp<0:=by
 have g:=k.mt m hm;have gE:=Eo k hm hc;obtain⟨hL,hA⟩:=Fn k hm;obtain⟨f1,f2⟩:=Kz k hm hc h;obtain⟨s1,s2,s3,_⟩:=Gl gE hL hA;have hTl:=Bt cs;have hl6:=k.l6;have h120:=g.bd.code;have hlo:=g.rd.lo;unfold Ahu at h;by_cases hh:(Ahw cs ms m).hop=true
 ·rw[if_pos hh]at h;cases h
 rw[if_neg hh]at h;cases h;have hh':(Ahw cs ms m).hop=false:=by simpa using hh
 obtain⟨sol,inps,aim⟩:=s3 hh';have want:∀ q,((Ahw cs ms m).at q).wa=true→((Ahw cs ms m).at q).st=true∧Ajn (Tr.tree cs) m ((Ahw cs ms m).at q).fr:=fun q hq=>Ej gE hL hA hh' hq;have at_eq:∀ (j:Nat) p,(Ahw cs ms m).sp[j]?=some p→(Ahw cs ms m).at j=p:=fun j p hj=>by unfold Ahj.at;rw[List.getD_eq_getElem?_getD,hj];rfl
 refine⟨?_,fun q hq=>?_,?_⟩
 ·have hn:((Ahq 0 (Ahw cs ms m).sp).map Rd.Mp.place).Nodup:=by
   have:=(Ni (Ahw cs ms m).sp 0).2;refine List.pairwise_map.2 (this.imp ?_);intro a b hab e;omega
  have hsub:∀ x∈(Ahq 0 (Ahw cs ms m).sp).map Rd.Mp.place,x∈m.handlers.map Rd.Hnd.target++((Cd.places m.code).filter (fun q=>Ah1 (m.code.getD q 0))).map (fun p:Nat=>Cd.atI m.code ((p:Int)+1)):=by
   intro x hx;obtain⟨q,hq,rfl⟩:=List.mem_map.1 hx;obtain⟨i,p,e1,e2,rfl⟩:=Gj _ _ _ hq;have e3:=at_eq i p e1;obtain⟨p',hp',hF,ha⟩:=(aim i).1 (by show ((Ahw cs ms m).at i).wa=true;rw[e3];exact e2);simp only[Nat.zero_add];rcases ha with ⟨h',hh2,hcov,et⟩ | ⟨hj,et⟩
   ·refine List.mem_append.2 (.inl (List.mem_map.2 ⟨h',hh2,?_⟩));have:=(gE.hnd h' hh2).1;omega
   ·refine List.mem_append.2 (.inr (List.mem_map.2 ⟨p',List.mem_filter.2 ⟨hp',hj⟩,?_⟩));have h0:0≤Cd.atI m.code ((p':Int)+1):=(gE.tgt p' hp' hj).1;have et':(Cd.atI m.code ((p':Int)+1)).toNat=i:=et;omega
  have hle:=Pm _ _ hn hsub;have hf:=Pc m.code m.code.length 0 (fun q hq=>(Di g.unread q hq).2) (Nat.zero_le _);have h4:=g.bd.hs;change 2*((Cd.places m.code).filter (fun q=>Ah1 (m.code.getD q 0))).length+0≤m.code.length at hf;simp only[List.length_append,List.length_map]at hle;omega
 ·obtain⟨q0,q1,hP⟩:=f2 q hq;have l1:=hP.lo;have l2:=hP.hi;simp only at l1 l2;exact⟨⟨q0,by omega⟩,by omega,l2,fun t ht=>Aa3 (by omega) (by omega) (hP.tl t ht),fun t ht=>Aa3 (by omega) (by omega) (hP.ts t ht)⟩
 ·refine Io _ 0 0 (-1) (by omega) (fun j p e1 e2=>?_);have e3:=at_eq j p e1;obtain⟨w1,w2⟩:=want j (by rw[e3];exact e2);rw[e3]at w1 w2;have hps:j∈Cd.places m.code:=inps j (by
   have:(Ahw cs ms m).F j=some p.fr:=Cz.2 ⟨by rw[e3];exact w1,by rw[e3]⟩;show (Ahw cs ms m).F j≠none;rw[this];simp)
  refine⟨?_,Rc w2.tl,Rc w2.ts⟩;rw[Nat.zero_add];unfold Cd.begB;rw[List.any_eq_true];exact⟨j,hps,by simp⟩
theorem La {FM:Rd.Mth→Option (List Rd.Mp)}:∀ (ms r:List Rd.Mth),Ahy FM ms=some r→r.map Rd.Mth.bare=ms.map Rd.Mth.bare
 | [],r,h=>by cases h;rfl
 | m::ms,r,h=>by
  unfold Ahy at h;cases hf:FM m with
  | none=>rw[hf]at h;cases h
  | some mp =>
   rw[hf]at h;simp only at h;cases hr:Ahy FM ms with
   | none=>rw[hr]at h;cases h
   | some r' =>
    rw[hr]at h;cases h;simp only[List.map_cons,La ms r' hr];rfl
structure Alike (s p:List UInt8) (r:List Rd.Mth):Prop where
 s0:(Rf.formed s).1=0
 rd:Rd.read p=(⟨(Rd.read s).1.classes,r⟩,0)
 p0:(Rf.formed p).1=0
 eq:r.map Rd.Mth.bare=(Rd.read s).1.methods.map Rd.Mth.bare
theorem Gz {s:List UInt8} (h:(Rf.formed s).1=0) {r:List Rd.Mth} (hr:Ahy (Ahu (Rd.read s).1.classes (Rd.read s).1.methods) (Rd.read s).1.methods=some r):Alike s (Aio ⟨(Rd.read s).1.classes,r⟩) r:=by
 have e:=La _ _ hr;obtain⟨k,_,_⟩:=Cp _ h;have hcs:=Hu _ (Ef h);obtain⟨h1,h2⟩:=Qz h e (fun m hm=>by
  obtain⟨m0,h0,mp,hmp,rfl⟩:=(Ey _ _ hr).2 m hm;exact Zn k h0 (hcs m0 h0) hmp)
 exact⟨h,h1,h2,e⟩
theorem S0:∀ (l:List Aj3) (k i:Nat) (p:Aj3),l[i]?=some p→p.wa=true→Ait ((k+i:Nat):Int) (Ahq k l)=some p.fr
 | [],_,_,_,h,_=>by simp at h
 | x::r,k,0,p,h,hw=>by
  simp only[List.getElem?_cons_zero,Option.some.injEq]at h;subst h;unfold Ahq;rw[if_pos hw,Ait]
  simp
 | x::r,k,i+1,p,h,hw=>by
  have ih:=S0 r (k+1) i p (by simpa using h) hw;rw[show k+1+i=k+(i+1) by omega]at ih;unfold Ahq
  split
  ·rw[Ait,if_neg (by simp only;omega)];exact ih
  ·exact ih
theorem Lu:∀ (l:List Aj3) (k q:Nat) (z:Ahh),Ait (q:Int) (Ahq k l)=some z→∃ i p,l[i]?=some p∧q=k+i∧p.wa=true∧p.fr=z
 | [],_,_,_,h=>by simp[Ahq,Ait]at h
 | x::r,k,q,z,h=>by
  unfold Ahq at h;by_cases hw:x.wa=true
  ·rw[if_pos hw,Ait]at h;by_cases e:(k:Int)=(q:Int)
   ·rw[if_pos e]at h;exact⟨0,x,rfl,by omega,hw,Option.some.inj h⟩
   ·rw[if_neg e]at h;obtain⟨i,p,h1,h2,h3⟩:=Lu r (k+1) q z h;exact⟨i+1,p,by simpa using h1,by omega,h3⟩
  ·rw[if_neg hw]at h;obtain⟨i,p,h1,h2,h3⟩:=Lu r (k+1) q z h;exact⟨i+1,p,by simpa using h1,by omega,h3⟩
theorem Km {CR:Rd.Mth→Int × Int}:∀ (l:List Rd.Mth) (k:Nat),(Aja CR k l).1=0↔∀ m∈l,(CR m).1=0
 | [],_=>by simp[Aja]
 | m::r,k=>by
  unfold Aja;by_cases h:(CR m).1=0
  ·rw[if_neg (fun g=>g h),Km r (k+1)];simp[h]
  ·rw[if_pos h]
   constructor
   ·intro g;exact absurd g h
   ·intro g;exact absurd (g m (by simp)) h
theorem Rx {s:List UInt8} (h:(Rf.formed s).1=0):(Aig s).1=0↔∀ m∈(Rd.read s).1.methods,(Aji (Rd.read s).1.classes (Rd.read s).1.methods m).1=0:=by
 unfold Aig Alc;rw[if_neg (fun g=>g h)];exact Km _ _
theorem Ob {s:List UInt8} (h:(Rf.formed s).1=0) {r:List Rd.Mth} (hr:Ahy (Ahu (Rd.read s).1.classes (Rd.read s).1.methods) (Rd.read s).1.methods=some r):(Aig (Aio ⟨(Rd.read s).1.classes,r⟩)).1=0:=by
 have al:=Gz h hr;rw[Rx al.p0,al.rd];intro m' hm';simp only at hm';obtain⟨m,hm,mp,hmp,rfl⟩:=(Ey _ _ hr).2 m' hm';obtain⟨k,_,_⟩:=Cp _ h;obtain⟨k',_,_⟩:=Cp _ al.p0;rw[al.rd]at k';have hc:=Hu _ (Ef h) m hm;have gE:=Eo k hm hc;obtain⟨hL,hA⟩:=Fn k hm;have eE:Ah4 (Rd.read s).1.classes r (m.withMaps mp)=Ah4 (Rd.read s).1.classes (Rd.read s).1.methods m:=Adl al.eq rfl;unfold Ahu at hmp;by_cases hh:(Ahw (Rd.read s).1.classes (Rd.read s).1.methods m).hop=true
 ·rw[if_pos hh]at hmp;cases hmp
 rw[if_neg hh]at hmp;cases hmp;have hh':(Ahw (Rd.read s).1.classes (Rd.read s).1.methods m).hop=false:=by simpa using hh
 obtain⟨_,_,s3,_⟩:=Gl gE hL hA;obtain⟨sol,_,aim⟩:=s3 hh';have at_eq:∀ (j:Nat) p,(Ahw (Rd.read s).1.classes (Rd.read s).1.methods m).sp[j]?=some p→(Ahw (Rd.read s).1.classes (Rd.read s).1.methods m).at j=p:=fun j p hj=>by unfold Ahj.at;rw[List.getD_eq_getElem?_getD,hj];rfl
 refine Tl k' hm' hc (F:=(Ahw (Rd.read s).1.classes (Rd.read s).1.methods m).F) (by rw[eE];exact sol) (fun q z hz=>?_) (fun p hp hne q ha=>?_)
 ·obtain⟨i,x,h1,h2,h3,h4⟩:=Lu _ _ _ _ hz;have e3:=at_eq i x h1;have hw:=Ej gE hL hA hh' (q:=i) (by show ((Ahw (Rd.read s).1.classes (Rd.read s).1.methods m).at i).wa=true;rw[e3];exact h3);have hst:((Ahw (Rd.read s).1.classes (Rd.read s).1.methods m).at i).st=true:=hw.1;rw[h2,Nat.zero_add];exact Cz.2 ⟨hst,by rw[e3];exact h4⟩
 ·rw[eE]at ha;have hw:((Ahw (Rd.read s).1.classes (Rd.read s).1.methods m).at q).wa=true:=(aim q).2 ⟨p,hp,hne,ha⟩;have hst:=(Ej gE hL hA hh' (q:=q) hw).1;have hlt:q<(Ahw (Rd.read s).1.classes (Rd.read s).1.methods m).sp.length:=Ad0 hst;have hg:=List.getElem?_eq_getElem hlt;have e3:=at_eq q _ hg;have:=S0 _ 0 q _ hg (by rw[← e3];exact hw);rw[Nat.zero_add]at this;exact⟨_,this⟩
theorem Ag5 (b:ByteArray):(⟨b.data.toList.toArray⟩:ByteArray)=b:=by cases b;simp
structure Mc.Call where
 meth:Int
 pos:Nat
 next:Nat
 lo:List Int
 st:List Int
 h:Nat
def Mc.zeros:List Int:=[0,0,0,0,0,0,0,0]
def Mc.push (v:Int) (c:Mc.Call):Mc.Call:=if 8≤c.h then c else ⟨c.meth,c.pos,c.next,c.lo,c.st.set c.h v,c.h+1⟩
def Mc.pop (c:Mc.Call):Int × Mc.Call:=if c.h=0 then (0,c) else (c.st.getD (c.h-1) 0,⟨c.meth,c.pos,c.next,c.lo,c.st,c.h-1⟩)
def Mc.popN:Nat→Mc.Call→List Int × Mc.Call
 | 0,c=>([],c)
 | k+1,c=>((Mc.popN k (Mc.pop c).2).1++[(Mc.pop c).1],(Mc.popN k (Mc.pop c).2).2)
def Mc.loc (n:Int) (c:Mc.Call):Int:=if n<0 then 0 else if 8≤n then 0 else c.lo.getD n.toNat 0
def Mc.setLoc (n v:Int) (c:Mc.Call):Mc.Call:=if n<0 then c else if 8≤n then c else ⟨c.meth,c.pos,c.next,c.lo.set n.toNat v,c.st,c.h⟩
def Mc.take (o:Int) (t:Nat) (c:Mc.Call):Mc.Call:=⟨c.meth,c.pos,t,c.lo,c.st.set 0 o,1⟩
def Mc.fill:Nat→List Int→Mc.Call→Mc.Call
 | _,[],c=>c
 | i,v::r,c=>Mc.fill (i+1) r (Mc.setLoc (i:Int) v c)
def Mc.newCall (m:Int) (vs:List Int):Mc.Call:=Mc.fill 0 vs ⟨m,0,0,Mc.zeros,Mc.zeros,0⟩
def Mc.signed (b:Int):Int:=if 127<b then b-256 else b
def Mc.w32 (v:Int):Int:=(v+2147483648) % 4294967296-2147483648
def Mc.reckoned (op x y:Int):Option Int :=
 if op=7 then some (Mc.w32 (Mc.w32 x+Mc.w32 y)) else if op=8 then some (Mc.w32 (Mc.w32 x-Mc.w32 y)) else if op=9 then some (Mc.w32 (Mc.w32 x*Mc.w32 y))
 else if Mc.w32 y=0 then none else some (Mc.w32 ((Mc.w32 x).tdiv (Mc.w32 y)))
def Mc.move (op n:Int) (c:Mc.Call):Mc.Call :=
 if op=0 then Mc.push (Mc.signed n) c
 else if op=1 then Mc.push 0 c
 else if op=2 then Mc.push (Mc.loc n c) c
 else if op=3 then Mc.setLoc n (Mc.pop c).1 (Mc.pop c).2
 else if op=4 then (Mc.pop c).2
 else if op=5 then Mc.push (Mc.pop c).1 (Mc.push (Mc.pop c).1 (Mc.pop c).2)
 else if op=6 then Mc.push (Mc.pop (Mc.pop c).2).1 (Mc.push (Mc.pop c).1 (Mc.pop (Mc.pop c).2).2)
 else c
def Mc.goTo (t:Nat) (c:Mc.Call):Mc.Call:=⟨c.meth,c.pos,t,c.lo,c.st,c.h⟩
def Mc.branch (op n:Int) (c:Mc.Call):Mc.Call :=
 if op=12 then (if (Mc.pop c).1=0 then Mc.goTo n.toNat (Mc.pop c).2 else (Mc.pop c).2)
 else if op=13 then (if (Mc.pop (Mc.pop c).2).1<(Mc.pop c).1 then Mc.goTo n.toNat (Mc.pop (Mc.pop c).2).2 else (Mc.pop (Mc.pop c).2).2)
 else if op=14 then (if (Mc.pop c).1=0 then Mc.goTo n.toNat (Mc.pop c).2 else (Mc.pop c).2)
 else Mc.goTo n.toNat c
structure Mc.E where
 T:List Int
 FL:List (List (Int × Int))
 ms:List Rd.Mth
 ins:List Int
 room:Int
 depth:Int
structure Mc.S where
 read:Nat
 objs:List (Int × List Int)
 now:Mc.Call
 wait:List Mc.Call
 ended:Bool
 out:List Int
 status:Int
 value:Int
 steps:Nat
def Mc.S.withNow (S:Mc.S) (c:Mc.Call):Mc.S:=⟨S.read,S.objs,c,S.wait,S.ended,S.out,S.status,S.value,S.steps⟩
def Mc.S.withObjs (S:Mc.S) (l:List (Int × List Int)):Mc.S:=⟨S.read,l,S.now,S.wait,S.ended,S.out,S.status,S.value,S.steps⟩
def Mc.S.opened (S:Mc.S) (c:Mc.Call):Mc.S:=⟨S.read,S.objs,c,S.wait++[S.now],S.ended,S.out,S.status,S.value,S.steps⟩
def Mc.S.fin (S:Mc.S) (st v:Int):Mc.S:=⟨S.read,S.objs,S.now,S.wait,true,S.out,st,v,S.steps⟩
def Mc.S.push (S:Mc.S) (v:Int):Mc.S:=S.withNow (Mc.push v S.now)
def Mc.S.popped (S:Mc.S):Mc.S:=S.withNow (Mc.pop S.now).2
def Mc.S.top (S:Mc.S):Int:=(Mc.pop S.now).1
def Mc.noMeth:Rd.Mth:=⟨0,0,[],(0,0),0,0,[],[],[]⟩
def Mc.E.meth (E:Mc.E) (n:Int):Rd.Mth:=if n<0 then Mc.noMeth else if (E.ms.length:Int)≤n then Mc.noMeth else E.ms.getD n.toNat Mc.noMeth
def Mc.has (r:Int) (l:List (Int × List Int)):Bool:=decide (1≤r)&&decide (r≤(l.length:Int))
def Mc.obj (r:Int) (l:List (Int × List Int)):Int × List Int:=l.getD (r-1).toNat (0,[])
def Mc.classOf (r:Int) (l:List (Int × List Int)):Int:=if Mc.has r l=true then (Mc.obj r l).1 else 0
def Mc.hasField (r s:Int) (l:List (Int × List Int)):Bool:=Mc.has r l&&(decide (0≤s)&&decide (s<((Mc.obj r l).2.length:Int)))
def Mc.getF (r s:Int) (l:List (Int × List Int)):Int:=if Mc.hasField r s l=true then (Mc.obj r l).2.getD s.toNat 0 else 0
def Mc.putF (r s v:Int) (l:List (Int × List Int)):List (Int × List Int):=if Mc.hasField r s l=true then l.set (r-1).toNat ((Mc.obj r l).1,(Mc.obj r l).2.set s.toNat v) else l
def Mc.setF (r:Int) (fs:List Int) (l:List (Int × List Int)):List (Int × List Int):=if Mc.has r l=true then l.set (r-1).toNat ((Mc.obj r l).1,fs) else l
def Mc.slot (T:List Int) (FL:List (List (Int × Int))) (n:Int):Int :=
 if (Ah0 n FL 0 0).1 = -1 then -1 else ((Aht T FL (Ah0 n FL 0 0).1).length:Int)-((Akq FL (Ah0 n FL 0 0).1).length:Int)+(Ah0 n FL 0 0).2
def Mc.targetOf (T:List Int) (cl:Int) (pos:Nat):List Rd.Hnd→Option Nat
 | []=>none
 | h::r=>if (Aic h (pos:Int)&&Tr.within T cl h.cl)=true then some h.target.toNat else Mc.targetOf T cl pos r
def Mc.E.target (E:Mc.E) (cl:Int) (c:Mc.Call):Option Nat:=Mc.targetOf E.T cl c.pos (E.meth c.meth).handlers
def Mc.throwN (E:Mc.E) (o cl:Int):Nat→Mc.S→Mc.S
 | 0,S=>S
 | k+1,S=>match E.target cl S.now with
  | some t=>S.withNow (Mc.take o t S.now)
  | none=>match S.wait.getLast? with
   | none=>S.fin 2 cl
   | some c=>Mc.throwN E o cl k ⟨S.read,S.objs,c,S.wait.dropLast,S.ended,S.out,S.status,S.value,S.steps⟩
def Mc.throw (E:Mc.E) (o:Int) (S:Mc.S):Mc.S:=Mc.throwN E o (Mc.classOf o S.objs) (S.wait.length+1) S
def Mc.throwGiven (E:Mc.E) (cl:Int) (S:Mc.S):Mc.S:=Mc.throw E (cl-2+1) S
def Mc.openCall (E:Mc.E) (m:Int) (vs:List Int) (S:Mc.S):Mc.S :=
 if E.depth≤(S.wait.length:Int)+1 then Mc.throwGiven E 6 S else S.opened (Mc.newCall m vs)
def Mc.popsS (k:Nat) (S:Mc.S):Mc.S:=S.withNow (Mc.popN k S.now).2
def Mc.popsV (k:Nat) (S:Mc.S):List Int:=(Mc.popN k S.now).1
def Mc.call (E:Mc.E) (n:Int) (S:Mc.S):Mc.S:=Mc.openCall E n (Mc.popsV (E.meth n).params.length S) (Mc.popsS (E.meth n).params.length S)
def Mc.nearTo (T:List Int) (cl name:Int):List Rd.Mth→Int→Int→Int→Int
 | [],_,found,_=>found
 | m::r,i,found,high=>if (m.name==name&&(decide (high≤m.cl)&&Tr.within T cl m.cl))=true then Mc.nearTo T cl name r (i+1) i m.cl else Mc.nearTo T cl name r (i+1) found high
def Mc.E.nearest (E:Mc.E) (cl name:Int):Int:=Mc.nearTo E.T cl name E.ms 0 0 0
def Mc.sendTo (E:Mc.E) (name o:Int) (vs:List Int) (S:Mc.S):Mc.S :=
 if o=0 then Mc.throwGiven E 3 S else Mc.openCall E (E.nearest (Mc.classOf o S.objs) name) (o::vs) S
def Mc.send (E:Mc.E) (n:Int) (S:Mc.S):Mc.S :=
 Mc.sendTo E (E.meth n).name (Mc.popsS (E.meth n).params.length S).top (Mc.popsV (E.meth n).params.length S) (Mc.popsS (E.meth n).params.length S).popped
def Mc.backTo (res:Int × Int) (v:Int) (S:Mc.S):Mc.S:=match S.wait.getLast? with
 | none=>S.fin 0 (if res.1=1 then v else 0)
 | some c=>⟨S.read,S.objs,(if res.1=0 then c else Mc.push v c),S.wait.dropLast,S.ended,S.out,S.status,S.value,S.steps⟩
def Mc.giveBack (E:Mc.E) (S:Mc.S):Mc.S :=
 if (E.meth S.now.meth).result.1=0 then Mc.backTo (E.meth S.now.meth).result 0 S else Mc.backTo (E.meth S.now.meth).result S.top S.popped
def Mc.throwTaken (E:Mc.E) (S:Mc.S):Mc.S:=if S.top=0 then Mc.throwGiven E 3 S.popped else Mc.throw E S.top S.popped
def Mc.inp (E:Mc.E) (S:Mc.S):Mc.S :=
 if S.read<E.ins.length then (⟨S.read+1,S.objs,S.now,S.wait,S.ended,S.out,S.status,S.value,S.steps⟩:Mc.S).push (E.ins.getD S.read 0) else S.push 0
def Mc.outp (S:Mc.S):Mc.S:=⟨S.read,S.objs,(Mc.pop S.now).2,S.wait,S.ended,S.out++[S.top],S.status,S.value,S.steps⟩
def Mc.reckon (E:Mc.E) (op:Int) (S:Mc.S):Mc.S:=match Mc.reckoned op S.popped.top S.top with
 | none=>Mc.throwGiven E 2 S.popped.popped
 | some z=>S.popped.popped.push z
def Mc.create (E:Mc.E) (cl:Int) (S:Mc.S):Mc.S :=
 if E.room≤(S.objs.length:Int)-5 then Mc.throwGiven E 5 S else (S.withObjs (S.objs++[(cl,[])])).push ((S.objs.length:Int)+1)
def Mc.setFields (E:Mc.E) (cl:Int) (S:Mc.S):Mc.S :=
 (Mc.popsS (Aht E.T E.FL cl).length S).popped.withObjs (Mc.setF (Mc.popsS (Aht E.T E.FL cl).length S).top (Mc.popsV (Aht E.T E.FL cl).length S) S.objs)
def Mc.getField (E:Mc.E) (n:Int) (S:Mc.S):Mc.S:=if S.top=0 then Mc.throwGiven E 3 S.popped else S.popped.push (Mc.getF S.top (Mc.slot E.T E.FL n) S.objs)
def Mc.putField (E:Mc.E) (n:Int) (S:Mc.S):Mc.S :=
 if S.popped.top=0 then Mc.throwGiven E 3 S.popped.popped else S.popped.popped.withObjs (Mc.putF S.popped.top (Mc.slot E.T E.FL n) S.top S.objs)
def Mc.cast (E:Mc.E) (cl:Int) (S:Mc.S):Mc.S :=
 if S.top=0 then S.popped.push S.top else if Tr.within E.T (Mc.classOf S.top S.objs) cl=true then S.popped.push S.top else Mc.throwGiven E 4 S.popped
def Mc.act (E:Mc.E) (op n:Int) (S:Mc.S):Mc.S :=
 if op≤6 then S.withNow (Mc.move op n S.now)
 else if op≤10 then Mc.reckon E op S
 else if op≤14 then S.withNow (Mc.branch op n S.now)
 else if op=15 then Mc.create E n S
 else if op=16 then Mc.setFields E n S
 else if op=17 then Mc.getField E n S
 else if op=18 then Mc.putField E n S
 else if op=19 then Mc.cast E n S
 else if op=20 then Mc.call E n S
 else if op=21 then Mc.send E n S
 else if op=22 then Mc.giveBack E S
 else if op=23 then Mc.throwTaken E S
 else if op=24 then Mc.inp E S
 else if op=25 then Mc.outp S
 else S
def Mc.one (E:Mc.E) (c:Mc.Call):Cd.Ins:=Cd.orZero (Cd.one (E.meth c.meth).code c.next)
def Mc.begun (E:Mc.E) (S:Mc.S):Mc.S :=
 ⟨S.read,S.objs,⟨S.now.meth,S.now.next,(Mc.one E S.now).place.toNat+Cd.wd (Mc.one E S.now).op,S.now.lo,S.now.st,S.now.h⟩,S.wait,S.ended,S.out,S.status,S.value,S.steps+1⟩
def Mc.step (E:Mc.E) (S:Mc.S):Mc.S:=Mc.act E (Mc.one E S.now).op (Mc.one E S.now).n (Mc.begun E S)
def Mc.loop (E:Mc.E) (fuel:Nat):Nat→Mc.S→Mc.S
 | 0,S=>S
 | k+1,S=>if S.ended=true then S else if fuel≤S.steps then S.fin 1 0 else Mc.loop E fuel k (Mc.step E S)
def Mc.start (entry:Int):Mc.S:=⟨0,[(2,[]),(3,[]),(4,[]),(5,[]),(6,[])],Mc.newCall entry [],[],false,[],0,0,0⟩
def Mc.run (E:Mc.E) (fuel:Nat) (entry:Int):Mc.S:=Mc.loop E fuel (fuel+2) (Mc.start entry)
end Go.Proofs.YtpcgnjolfahacaaGreat
