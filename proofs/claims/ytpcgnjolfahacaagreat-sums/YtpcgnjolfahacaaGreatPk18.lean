/- a part of the proofs -/
import Derived.Test.YtpcgnjolfahacaaGreatPk17
set_option maxRecDepth 100000
set_option maxHeartbeats 40000000
set_option linter.unusedVariables false
set_option linter.unusedSimpArgs false
namespace Go.Proofs.YtpcgnjolfahacaaGreat
open Go.RowKit
def By (n:Int):Prop:=0≤n∧n≤255
def TyB (t:Int × Int):Prop:=By t.1∧By t.2
def Lies (s:List UInt8) (p:Nat) (l:List UInt8):Prop:=∃ r,s.drop p=l++r
theorem Lies.cut {s:List UInt8}{p:Nat}{a b:List UInt8} (h:Lies s p (a++b)):Lies s p a∧Lies s (p+a.length) b:=by
 obtain⟨r,h⟩:=h;refine⟨⟨b++r,by rw[h,List.append_assoc]⟩,⟨r,?_⟩⟩;rw[← List.drop_drop,h,List.append_assoc,List.drop_left]
theorem Lies.head {s:List UInt8}{p:Nat}{x:UInt8}{l:List UInt8} (h:Lies s p (x::l)):s[p]?=some x∧p<s.length∧Lies s (p+1) l:=by
 obtain⟨r,h⟩:=h;have h0:s[p]?=some x:=by
  have:=congrArg (·[0]?) h
  simpa using this
 refine⟨h0,(List.getElem?_eq_some_iff.1 h0).1,⟨r,?_⟩⟩;rw[← List.drop_drop,h];rfl
theorem Adg {n:Int} (h:By n):((Afe n).toNat:Int)=n:=by
 unfold Afe;obtain⟨h0,h1⟩:=h;rw[UInt8.toNat_ofNat',Int.emod_eq_of_lt (by omega) (by omega),Nat.mod_eq_of_lt (by omega)];omega
theorem Bz {s:List UInt8}{p:Nat}{n:Int}{l:List UInt8} (hn:By n) (h:Lies s p (Afe n::l)):Rd.nx s ⟨p,false⟩=(n,⟨p+1,false⟩)∧Lies s (p+1) l:=by
 obtain⟨h0,h1,h2⟩:=h.head;refine⟨?_,h2⟩;unfold Rd.nx;rw[if_neg (by simp),if_neg (by simp only;omega),h0];simp only[Option.getD_some];rw[Adg hn]
theorem Dn {s:List UInt8}{p:Nat}{n a b:Int}{l:List UInt8} (hn:By n) (ha:a≤n) (hb:n≤b) (h:Lies s p (Afe n::l)):Rd.cn s a b ⟨p,false⟩=(n,⟨p+1,false⟩)∧Lies s (p+1) l:=by
 obtain⟨h0,h1⟩:=Bz hn h;refine⟨?_,h1⟩;unfold Rd.cn;rw[h0];simp only;rw[if_neg (by omega),if_neg (by omega)]
theorem Fn {s:List UInt8}{α:Type} (f:Rd.St→α × Rd.St) (W:α→List UInt8) (l:List α) (hf:∀ x∈l,∀ p,Lies s p (W x)→f ⟨p,false⟩=(x,⟨p+(W x).length,false⟩)) (p:Nat) (h:Lies s p (l.flatMap W)) :
  Rd.rep f l.length ⟨p,false⟩=(l,⟨p+(l.flatMap W).length,false⟩):=by
 have key:∀ k,k≤l.length→Rd.rep f k ⟨p,false⟩=(l.take k,⟨p+((l.take k).flatMap W).length,false⟩):=by
  intro k
  induction k with
  | zero=>intro _;simp[Rd.rep]
  | succ k ih =>
   intro hk;have hkl:k<l.length:=by omega
   rw[Rd.rep,ih (by omega)];have e:l.flatMap W=(l.take k).flatMap W++(W l[k]++(l.drop (k+1)).flatMap W):=by
    conv=>lhs;rw[← List.take_append_drop k l,List.flatMap_append,List.drop_eq_getElem_cons hkl,List.flatMap_cons]
   rw[e]at h;have h2:=h.cut.2.cut.1;simp only;rw[hf l[k] (List.getElem_mem hkl) _ h2,List.take_succ_eq_append_getElem hkl];simp only[List.flatMap_append,List.flatMap_cons,List.flatMap_nil,List.append_nil,List.length_append];rw[Nat.add_assoc]
 have:=key l.length (Nat.le_refl _)
 rwa [List.take_length]at this
theorem Ul {s:List UInt8}{p:Nat}{t:Int × Int} (ht:TyB t) (h:Lies s p (Ahc t)):Rd.ty s ⟨p,false⟩=(t,⟨p+2,false⟩):=by
 obtain⟨t1,t2⟩:=t;obtain⟨a,b⟩:=Bz ht.1 h;obtain⟨c,_⟩:=Bz ht.2 b;unfold Rd.ty;rw[a];simp only;rw[c]
theorem Dg (l:List (Int × Int)):(Afz l).length=2*l.length:=by
 induction l with
 | nil=>rfl
 | cons t r ih=>simp only[Afz,List.flatMap_cons,List.length_append,List.length_cons]at ih ⊢;rw[ih];simp[Ahc];omega
theorem Il {s:List UInt8}{p:Nat}{l:List (Int × Int)} (hl:∀ t∈l,TyB t) (h:Lies s p (Afz l)):Rd.tys s l.length ⟨p,false⟩=(l,⟨p+2*l.length,false⟩):=by
 unfold Rd.tys;rw[Fn (Rd.ty s) Ahc l (fun t ht q hq=>by rw[Ul (hl t ht) hq];rfl) p h,← Dg];rfl
structure ClsB (c:Rd.Cls):Prop where
 ab:By c.above
 fl:c.fields.length≤4
 ty:∀ t∈c.fields,TyB t
theorem Aa8 {s:List UInt8}{p:Nat}{c:Rd.Cls} (hc:ClsB c) (h:Lies s p (Aha c)):Rd.cls s ⟨p,false⟩=(c,⟨p+(Aha c).length,false⟩):=by
 obtain⟨ab,fl⟩:=c;have hl:=hc.fl;simp only at hl;obtain⟨a1,a2⟩:=Bz hc.ab h;obtain⟨b1,b2⟩:=Dn (n:=(fl.length:Int)) (a:=0) (b:=4) ⟨by omega,by omega⟩ (by omega) (by omega) a2;have c1:=Il (p:=p+1+1) hc.ty b2;unfold Rd.cls;rw[a1];simp only;rw[b1];simp only[Int.toNat_natCast];rw[c1];simp only[Aha,List.length_cons,Dg];rw[show p+1+1+2*fl.length=p+(2*fl.length+1+1) by omega]
structure HndB (h:Rd.Hnd):Prop where
 fr:By h.frm
 tl:By h.til
 tg:By h.target
 cl:By h.cl
theorem Aaf {s:List UInt8}{p:Nat}{c:Rd.Hnd} (hc:HndB c) (h:Lies s p (Aho c)):Rd.hnd s ⟨p,false⟩=(c,⟨p+(Aho c).length,false⟩):=by
 obtain⟨x,y,z,u⟩:=c;obtain⟨a1,a2⟩:=Bz hc.fr h;obtain⟨b1,b2⟩:=Bz hc.tl a2;obtain⟨c1,c2⟩:=Bz hc.tg b2;obtain⟨d1,_⟩:=Bz hc.cl c2;unfold Rd.hnd;simp only[a1,b1,c1,d1,Aho,List.length_cons,List.length_nil]
theorem Xo {s:List UInt8}{p:Nat}{l:List Rd.Hnd} (h4:l.length≤4) (hl:∀ c∈l,HndB c) (h:Lies s p (Ahj l)):Rd.hnds s ⟨p,false⟩=(l,⟨p+(Ahj l).length,false⟩):=by
 obtain⟨b1,b2⟩:=Dn (n:=(l.length:Int)) (a:=0) (b:=4) ⟨by omega,by omega⟩ (by omega) (by omega) h;unfold Rd.hnds;simp only[b1,Int.toNat_natCast];rw[Fn (Rd.hnd s) Aho l (fun t ht q hq=>Aaf (hl t ht) hq) _ b2];simp only[Ahj,List.length_cons];rw[show p+1+(l.flatMap Aho).length=p+((l.flatMap Aho).length+1) by omega]
structure MpB (lo hi:Int) (m:Rd.Mp):Prop where
 pl:By m.place
 lo:(m.locals.length:Int)=lo
 hi:(m.stack.length:Int)≤hi
 tl:∀ t∈m.locals,TyB t
 ts:∀ t∈m.stack,TyB t
theorem Adl {s:List UInt8}{p:Nat}{lo hi:Int}{m:Rd.Mp} (h255:hi≤255) (hm:MpB lo hi m) (h:Lies s p (Ag0 m)):Rd.mp s lo hi ⟨p,false⟩=(m,⟨p+(Ag0 m).length,false⟩):=by
 obtain⟨pl,ls,ss⟩:=m;have hl:=hm.lo;have hh:=hm.hi;simp only at hl hh;obtain⟨a1,a2⟩:=Bz hm.pl h;obtain⟨b1,b2⟩:=a2.cut;have b3:=Il hm.tl b1;simp only[Dg]at b2 b3;obtain⟨c1,c2⟩:=Dn (n:=(ss.length:Int)) (a:=0) (b:=hi) ⟨by omega,by omega⟩ (by omega) hh b2;have d1:=Il hm.ts c2;simp only at d1;unfold Rd.mp;have e1:lo.toNat=ls.length:=by omega
 simp only[a1,e1,b3,c1,Int.toNat_natCast,d1,Ag0,List.length_cons,List.length_append,Dg];rw[show p+1+2*ls.length+1+2*ss.length=p+(2*ls.length+(2*ss.length+1)+1) by omega]
theorem Aaw {s:List UInt8}{p:Nat}{lo hi:Int}{l:List Rd.Mp} (h255:hi≤255) (h64:l.length≤64) (hl:∀ c∈l,MpB lo hi c) (h:Lies s p (Aie l)):Rd.mps s lo hi ⟨p,false⟩=(l,⟨p+(Aie l).length,false⟩):=by
 obtain⟨b1,b2⟩:=Dn (n:=(l.length:Int)) (a:=0) (b:=64) ⟨by omega,by omega⟩ (by omega) (by omega) h;unfold Rd.mps;simp only[b1,Int.toNat_natCast];rw[Fn (Rd.mp s lo hi) Ag0 l (fun t ht q hq=>Adl h255 (hl t ht) hq) _ b2];simp only[Aie,List.length_cons];rw[show p+1+(l.flatMap Ag0).length=p+((l.flatMap Ag0).length+1) by omega]
theorem We (l:List Int):l.map Afe=l.flatMap (fun x=>[Afe x]):=by
 induction l with
 | nil=>rfl
 | cons x r ih=>rw[List.map_cons,List.flatMap_cons,ih];rfl
theorem Wm {s:List UInt8}{p:Nat}{l:List Int} (h1:1≤l.length) (h2:l.length≤120) (hl:∀ c∈l,By c) (h:Lies s p (Afe (l.length:Int)::l.map Afe)):Rd.codes s ⟨p,false⟩=(l,⟨p+1+l.length,false⟩):=by
 obtain⟨b1,b2⟩:=Dn (n:=(l.length:Int)) (a:=1) (b:=120) ⟨by omega,by omega⟩ (by omega) (by omega) h;have e:=We l;rw[e]at b2;unfold Rd.codes;simp only[b1,Int.toNat_natCast];rw[Fn (Rd.nx s) (fun x=>[Afe x]) l (fun t ht q hq=>(Bz (hl t ht) hq).1) _ b2,← e,List.length_map]
structure MthB (m:Rd.Mth):Prop where
 cl:By m.cl
 nm:By m.name
 pl:m.params.length≤4
 ps:∀ t∈m.params,TyB t
 rs:TyB m.result
 lo:0≤m.locals∧m.locals≤8
 st:0≤m.stack∧m.stack≤8
 c1:1≤m.code.length
 c2:m.code.length≤120
 cb:∀ x∈m.code,By x
 h4:m.handlers.length≤4
 hb:∀ h∈m.handlers,HndB h
 m6:m.maps.length≤64
 mb:∀ q∈m.maps,MpB m.locals m.stack q
theorem Aah {s:List UInt8}{p:Nat}{m:Rd.Mth} (hm:MthB m) (h:Lies s p (Agl m)):Rd.mth s ⟨p,false⟩=(m,⟨p+(Agl m).length,false⟩):=by
 have hpl:=hm.pl;have hlo:=hm.lo;have hst:=hm.st;obtain⟨cl,nm,ps,rs,lo,st,cd,hs,mp⟩:=m;simp only at hpl hlo hst;unfold Agl Ai8 at h;simp only[List.append_assoc]at h;obtain⟨g1,g2⟩:=Bz hm.cl h;obtain⟨a1,a2⟩:=Bz hm.nm g2;obtain⟨b1,b2⟩:=Dn (n:=(ps.length:Int)) (a:=0) (b:=4) ⟨by omega,by omega⟩ (by omega) (by omega) a2;obtain⟨c1,c2⟩:=Lies.cut (a:=Afz ps) b2;have c3:=Il hm.ps c1;simp only[Dg]at c2 c3;obtain⟨d1,d2⟩:=Lies.cut (a:=Ahc rs) c2;have d3:=Ul hm.rs d1;obtain⟨e1,e2⟩:=Dn (n:=lo) (a:=0) (b:=8) ⟨by omega,by omega⟩ (by omega) (by omega) d2;obtain⟨f1,f2⟩:=Dn (n:=st) (a:=0) (b:=8) ⟨by omega,by omega⟩ (by omega) (by omega) e2;obtain⟨i1,i2⟩:=Lies.cut (a:=Afe (cd.length:Int)::cd.map Afe) f2;have i3:=Wm hm.c1 hm.c2 hm.cb i1;obtain⟨j1,j2⟩:=Lies.cut (a:=Ahj hs) i2;have j3:=Xo hm.h4 hm.hb j1;have k3:=Aaw (hi:=st) (by omega) hm.m6 hm.mb j2;simp only[Ahc,List.length_cons,List.length_nil,List.length_map]at e1 f1 i3 j3 k3 d3;unfold Rd.mth;simp only[g1,a1,b1,Int.toNat_natCast,c3,d3,e1,f1,i3];rw[show p+1+1+1+2*ps.length+2+1+1+1+cd.length=p+1+1+1+2*ps.length+(0+1+1)+1+1+(cd.length+1) by omega,j3];simp only;rw[k3];simp only[Agl,Ai8,List.length_append,List.length_cons,List.length_nil,Dg,Ahc,List.length_map]
 congr 2
 omega
structure FilB (f:Rd.Fil):Prop where
 c6:f.classes.length≤6
 cb:∀ c∈f.classes,ClsB c
 m1:1≤f.methods.length
 m6:f.methods.length≤6
 mb:∀ m∈f.methods,MthB m
theorem Aas {f:Rd.Fil} (hf:FilB f):Rd.fil (Agd f) ⟨0,false⟩=(f,⟨(Agd f).length,false⟩):=by
 obtain⟨s,hs⟩:∃ s,s=Agd f:=⟨_,rfl⟩;have h:Lies s 0 (Agd f):=⟨[],by rw[hs];simp⟩;have hL:s.length=(Agd f).length:=by rw[hs]
 rw[← hs];clear hs;obtain⟨cs,ms⟩:=f;have h6:=hf.c6;have m1:=hf.m1;have m6:=hf.m6;simp only at h6 m1 m6;unfold Agd Ai0 at h;simp only[List.append_assoc]at h;obtain⟨a1,a2⟩:=Bz (n:=83) ⟨by omega,by omega⟩ h;obtain⟨b1,b2⟩:=Bz (n:=77) ⟨by omega,by omega⟩ a2;obtain⟨c1,c2⟩:=Dn (n:=(cs.length:Int)) (a:=0) (b:=6) ⟨by omega,by omega⟩ (by omega) (by omega) b2;obtain⟨d1,d2⟩:=Lies.cut (a:=cs.flatMap Aha) c2;have d3:=Fn (Rd.cls s) Aha cs (fun c hc q hq=>Aa8 (hf.cb c hc) hq) _ d1;obtain⟨e1,e2⟩:=Dn (n:=(ms.length:Int)) (a:=1) (b:=6) ⟨by omega,by omega⟩ (by omega) (by omega) d2;have f3:=Fn (Rd.mth s) Agl ms (fun m hm q hq=>Aah (hf.mb m hm) hq) _ e2;unfold Rd.fil;have x1:Rd.ex s 83 ⟨0,false⟩=⟨0+1,false⟩:=by unfold Rd.ex;rw[a1,if_pos rfl]
 have x2:Rd.ex s 77 ⟨0+1,false⟩=⟨0+1+1,false⟩:=by unfold Rd.ex;rw[b1,if_pos rfl]
 simp only[x1,x2,c1,Int.toNat_natCast,d3,e1,f3];rw[hL];simp only[Agd,Ai0,List.length_append,List.length_cons,List.length_nil]
theorem Ke {α:Type}{f:Rd.St→α × Rd.St}{P:α→Prop} (h:∀ t,P (f t).1):∀ (n:Nat) (t:Rd.St),∀ x∈(Rd.rep f n t).1,P x
 | 0,_,x,hx=>by simp[Rd.rep]at hx
 | n+1,t,x,hx=>by
  unfold Rd.rep at hx;simp only at hx;rcases List.mem_append.1 hx with hx | hx
  ·exact Ke h n t x hx
  ·rw[List.mem_singleton.1 hx];exact h _
theorem Aeg (s:List UInt8) (t:Rd.St):TyB (Rd.ty s t).1:=⟨Rd.nx_bd s _,Rd.nx_bd s _⟩
theorem Qn (s:List UInt8) (n:Nat) (t:Rd.St):∀ x∈(Rd.tys s n t).1,TyB x:=Ke (Aeg s) n t
theorem Ae6 (s:List UInt8) (t:Rd.St):ClsB (Rd.cls s t).1:=by
 refine⟨Rd.nx_bd s _,?_,Qn s _ _⟩;simp only[Rd.cls,Rd.tys,Rd.rep_len];have:=Rd.cn_bd s 0 4 (Rd.nx s t).2 (by omega);omega
theorem Aex (s:List UInt8) (t:Rd.St):HndB (Rd.hnd s t).1:=⟨Rd.nx_bd s _,Rd.nx_bd s _,Rd.nx_bd s _,Rd.nx_bd s _⟩
theorem Afa (s:List UInt8) (L H:Int) (hL:0≤L) (hH:0≤H) (t:Rd.St):MpB L H (Rd.mp s L H t).1:=by
 refine⟨Rd.nx_bd s _,?_,?_,Qn s _ _,Qn s _ _⟩
 ·simp only[Rd.mp,Rd.tys,Rd.rep_len];omega
 ·simp only[Rd.mp,Rd.tys,Rd.rep_len];have:=Rd.cn_bd s 0 H (Rd.rep (Rd.ty s) L.toNat (Rd.nx s t).2).2 hH;omega
theorem Aev (s:List UInt8) (t:Rd.St) (h:(Rd.mth s t).2.bad=false):MthB (Rd.mth s t).1:=by
 have hc:=Sl s t h;unfold Rd.mth at hc ⊢;simp only at hc ⊢;refine⟨Rd.nx_bd s _,Rd.nx_bd s _,?_,Qn s _ _,Aeg s _,Rd.cn_bd s _ _ _ (by omega),Rd.cn_bd s _ _ _ (by omega),hc,?_,Ke (Rd.nx_bd s) _ _,?_,Ke (Aex s) _ _,?_,Ke (Afa s _ _ (Rd.cn_bd s _ _ _ (by omega)).1 (Rd.cn_bd s _ _ _ (by omega)).1) _ _⟩
 ·simp only[Rd.tys,Rd.rep_len];have:=Rd.cn_bd s 0 4 (Rd.nx s (Rd.nx s t).2).2 (by omega);omega
 ·simp only[Rd.codes,Rd.rep_len];have h1:=Rd.cn_bd s 1 120;generalize (Rd.cn s 0 8 _).2=u;have:=h1 u (by omega);omega
 ·simp only[Rd.hnds,Rd.rep_len];have h1:=Rd.cn_bd s 0 4;generalize (Rd.codes s _).2=u;have:=h1 u (by omega);omega
 ·simp only[Rd.mps,Rd.rep_len];have h1:=Rd.cn_bd s 0 64;generalize (Rd.hnds s _).2=u;have:=h1 u (by omega);omega
theorem Ab8 (s:List UInt8):∀ (n:Nat) (t:Rd.St),(Rd.rep (Rd.mth s) n t).2.bad=false→∀ m∈(Rd.rep (Rd.mth s) n t).1,MthB m
 | 0,_,_,m,hm=>by simp[Rd.rep]at hm
 | n+1,t,h,m,hm=>by
  unfold Rd.rep at h hm;simp only at h hm;rcases List.mem_append.1 hm with hm | hm
  ·refine Ab8 s n t ?_ m hm;cases hc:(Rd.rep (Rd.mth s) n t).2.bad with
   | false=>rfl
   | true=>rw[Ny s _ hc]at h;cases h
  ·rw[List.mem_singleton.1 hm];exact Aev s _ h
theorem Aea (s:List UInt8) (a b:Int) (t:Rd.St) (h:(Rd.cn s a b t).2.bad=false):a≤(Rd.cn s a b t).1:=by
 unfold Rd.cn at h ⊢
 split at h
 ·cases h
 ·split at h
  ·cases h
  ·next h1 h2=>rw[if_neg h1,if_neg h2];omega
theorem Aeo (s:List UInt8) (h:(Rd.read s).2=0):FilB (Rd.read s).1:=by
 unfold Rd.read at h ⊢;by_cases h1:15000<s.length
 ·rw[if_pos h1]at h;simp at h
 rw[if_neg h1]at h ⊢;by_cases h2:(Rd.fil s ⟨0,false⟩).2.bad=true∨(Rd.fil s ⟨0,false⟩).2.pos≠s.length
 ·rw[if_pos h2]at h;simp at h
 rw[if_neg h2];have hb:(Rd.fil s ⟨0,false⟩).2.bad=false:=by
  cases hb:(Rd.fil s ⟨0,false⟩).2.bad with
  | false=>rfl
  | true=>exact absurd (.inl hb) h2
 unfold Rd.fil at hb ⊢;simp only at hb ⊢;generalize Rd.ex s 77 (Rd.ex s 83 ⟨0,false⟩)=u at *;have c1:=Rd.cn_bd s 0 6 u (by omega);generalize Rd.cn s 0 6 u=n at *;have hC:∀ c∈(Rd.rep (Rd.cls s) n.1.toNat n.2).1,ClsB c:=Ke (Ae6 s) _ _;have hl:(Rd.rep (Rd.cls s) n.1.toNat n.2).1.length=n.1.toNat:=Rd.rep_len _ _ _;generalize Rd.rep (Rd.cls s) n.1.toNat n.2=cs at *;have m1:=Rd.cn_bd s 1 6 cs.2 (by omega);have m2:=Aea s 1 6 cs.2;generalize Rd.cn s 1 6 cs.2=m at *;have m3:m.2.bad=false:=by
  cases hc:m.2.bad with
  | false=>rfl
  | true=>rw[Fi (Ny s) _ _ hc]at hb;cases hb
 have m4:=m2 m3;refine⟨by simp only;omega,hC,?_,?_,Ab8 s _ _ hb⟩
 ·simp only[Rd.rep_len];omega
 ·simp only[Rd.rep_len];omega
theorem Ada {f:Rd.Fil} (hf:FilB f) (hl:(Agd f).length≤15000):Rd.read (Agd f)=(f,0):=by
 unfold Rd.read;rw[if_neg (by omega),Aas hf,if_neg (by simp)]
theorem J7 (c:List Int):∀ (k p0:Nat),c.length≤p0+k→∀ (d r:List Nat) (p:Nat),Cd.starts c k p0=d++p::r→p+Cd.wd (c.getD p 0)<c.length→∃ r',r=(p+Cd.wd (c.getD p 0))::r'
 | 0,p0,_,d,r,p,h,_=>by simp[Cd.starts]at h
 | k+1,p0,hk,d,r,p,h,hl=>by
  unfold Cd.starts at h;by_cases hp:p0<c.length
  ·rw[if_pos hp]at h;have hw:=Cd.wd_bd (c.getD p0 0);cases d with
   | nil =>
    simp only[List.nil_append,List.cons.injEq]at h;obtain⟨rfl,rfl⟩:=h;obtain⟨j,rfl⟩:∃ j,k=j+1:=⟨k-1,by omega⟩;unfold Cd.starts;rw[if_pos hl];exact⟨_,rfl⟩
   | cons e d =>
    simp only[List.cons_append,List.cons.injEq]at h;exact J7 c k _ (by omega) d r p h.2 hl
  ·rw[if_neg hp]at h;simp at h
theorem Rl {c:List Int}{d r:List Nat}{p:Nat} (h:Cd.places c=d++p::r) (hl:p+Cd.wd (c.getD p 0)<c.length):∃ r',r=(p+Cd.wd (c.getD p 0))::r':=J7 c c.length 0 (by omega) d r p h hl
theorem Eh {T:List Int}{mp:Int→Option Afb}{p:Int}{lo:List (Int × Int)}:∀ {hs:List Rd.Hnd},Ahk T mp p lo hs=0↔∀ h∈hs,Af2 h p=true→∃ z,mp h.target=some z∧Afh T ⟨lo,[(3,h.cl)]⟩ z=true
 | []=>by simp[Ahk]
 | h::r=>by
  have ih:=Eh (T:=T) (mp:=mp) (p:=p) (lo:=lo) (hs:=r);unfold Ahk;have hcov:Af2 h p=true↔h.frm≤p∧p<h.til:=by unfold Af2;simp
  by_cases h1:p<h.frm
  ·rw[if_pos h1,ih]
   constructor
   ·intro g x hx hc;rcases List.mem_cons.1 hx with rfl | hx
    ·have:=(hcov.1 hc).1;omega
    ·exact g x hx hc
   ·exact fun g x hx=>g x (by simp[hx])
  rw[if_neg h1];by_cases h2:h.til≤p
  ·rw[if_pos h2,ih]
   constructor
   ·intro g x hx hc;rcases List.mem_cons.1 hx with rfl | hx
    ·have:=(hcov.1 hc).2;omega
    ·exact g x hx hc
   ·exact fun g x hx=>g x (by simp[hx])
  rw[if_neg h2];have hc:Af2 h p=true:=hcov.2 ⟨by omega,by omega⟩;cases hz:mp h.target with
  | none =>
   simp only[Option.isSome_none,if_true]
   constructor
   ·intro g;omega
   ·intro g;obtain⟨z,e,_⟩:=g h (by simp) hc;rw[hz]at e;cases e
  | some z =>
   rw[if_neg (show ¬ (some z).isSome=false by simp),show Afs (some z)=z from rfl];by_cases hf:Afh T ⟨lo,[(3,h.cl)]⟩ z=true
   ·rw[if_neg (show ¬ Afh T ⟨lo,[(3,h.cl)]⟩ z=false by rw[hf];simp),ih]
    constructor
    ·intro g x hx hcx;rcases List.mem_cons.1 hx with rfl | hx
     ·exact⟨z,hz,hf⟩
     ·exact g x hx hcx
    ·exact fun g x hx=>g x (by simp[hx])
   ·rw[if_pos (show Afh T ⟨lo,[(3,h.cl)]⟩ z=false by simpa using hf)]
    constructor
    ·intro g;omega
    ·intro g;obtain⟨z',e,e2⟩:=g h (by simp) hc;rw[hz]at e;cases e;exact absurd e2 hf
theorem Ps {T:List Int}{mp:Int→Option Afb}{H:Int}{R:Option Afb}{op n nxt len:Int}:Aif T mp H R op n nxt len=0 ↔
  H=0∧∃ y,R=some y∧(Afx op=true→∃ z,mp n=some z∧Afh T y z=true)∧(Af5 op=true→nxt<len∧∀ z,mp nxt=some z→Afh T y z=true):=by
 unfold Aif;by_cases h1:H=0
 ·rw[if_neg (fun g=>g h1)];cases R with
  | none=>simp
  | some y =>
   rw[if_neg (show ¬ (some y).isSome=false by simp),show Afs (some y)=y from rfl]
   constructor
   ·intro h;refine⟨h1,y,rfl,?_,?_⟩
    ·intro hj;by_cases h2:(mp n).isSome=false
     ·rw[if_pos ⟨hj,h2⟩]at h;omega
     rw[if_neg (fun g=>h2 g.2)]at h;cases hz:mp n with
     | none=>rw[hz]at h2;simp at h2
     | some z =>
      rw[hz,show Afs (some z)=z from rfl]at h;by_cases h3:Afh T y z=false
      ·rw[if_pos ⟨hj,h3⟩]at h;omega
      ·exact⟨z,rfl,by simpa using h3⟩
    ·intro hg
     split at h
     ·omega
     split at h
     ·omega
     rw[if_neg (by rw[hg];simp)]at h
     split at h
     ·omega
     ·next hl =>
      refine⟨by omega,fun z hz=>?_⟩;rw[hz,show Afs (some z)=z from rfl]at h;by_cases h3:Afh T y z=false
      ·rw[if_pos ⟨rfl,h3⟩]at h;omega
      ·simpa using h3
   ·rintro ⟨-,y',e,hj,hg⟩;cases e;rw[if_neg (by
     rintro ⟨a,b⟩;obtain⟨z,hz,_⟩:=hj a;rw[hz]at b;simp at b),if_neg (by
     rintro ⟨a,b⟩;obtain⟨z,hz,hf⟩:=hj a;rw[hz,show Afs (some z)=z from rfl,hf]at b;cases b)]
    by_cases hgo:Af5 op=true
    ·obtain⟨hl,hz⟩:=hg hgo;rw[if_neg (by rw[hgo];simp),if_neg (by omega),if_neg (by
      rintro ⟨a,b⟩;obtain⟨z,e⟩:=Option.isSome_iff_exists.1 a;rw[e,show Afs (some z)=z from rfl,hz z e]at b;cases b)]
    ·rw[if_pos (by simpa using hgo)]
 ·rw[if_pos h1]
  constructor
  ·intro h;exact absurd h h1
  ·intro h;exact absurd h.1 h1
theorem Gy {ah:Nat→Option Afb}{lk:Nat→Afb→Int}:∀ {l:List Nat},(Ahs ah lk l).1=0↔∀ p∈l,∀ x,ah p=some x→lk p x=0
 | []=>by simp[Ahs]
 | p::r=>by
  have ih:=Gy (ah:=ah) (lk:=lk) (l:=r);unfold Ahs;cases hp:ah p with
  | none =>
   simp only;rw[ih]
   constructor
   ·intro g q hq x hx;rcases List.mem_cons.1 hq with rfl | hq
    ·rw[hp]at hx;cases hx
    ·exact g q hq x hx
   ·exact fun g q hq=>g q (by simp[hq])
  | some x =>
   simp only;by_cases h:lk p x=0
   ·rw[if_neg (fun g=>g h),ih]
    constructor
    ·intro g q hq y hy;rcases List.mem_cons.1 hq with rfl | hq
     ·rw[hp]at hy;cases hy;exact h
     ·exact g q hq y hy
    ·exact fun g q hq=>g q (by simp[hq])
   ·rw[if_pos h]
    constructor
    ·intro g;exact absurd g h
    ·intro g;exact absurd (g p (by simp) x hp) h
theorem Fz {cs:List Rd.Cls}{ms:List Rd.Mth}{m:Rd.Mth}{d r:List Nat}{q:Nat} (h:Cd.places m.code=d++q::r) :
  Agt cs ms m q=(Afv m (q:Int)).or (d.foldl (fun o p=>Ah5 (fun p=>Afv m (p:Int)) (Agj cs ms m) (fun p=>Af5 (m.code.getD p 0)) p o) (some (Agc m))):=by
 have hl:=Oc m.code;unfold Agt;rw[h]at hl ⊢;exact Jp _ _ _ q r d _ (fun p hp=>(List.pairwise_append.1 hl).2.2 p hp q (by simp))
theorem Lc {cs:List Rd.Cls}{ms:List Rd.Mth}{m:Rd.Mth} (hc:0<m.code.length):Agt cs ms m 0=(Afv m 0).or (some (Agc m)):=by
 obtain⟨r,hr⟩:∃ r,Cd.places m.code=[]++0::r:=by
  unfold Cd.places;cases hn:m.code.length with
  | zero=>omega
  | succ n =>
   unfold Cd.starts;rw[if_pos hc];exact⟨_,rfl⟩
 rw[Fz hr];rfl
theorem Li {cs:List Rd.Cls}{ms:List Rd.Mth}{m:Rd.Mth}{p:Nat} (hp:p∈Cd.places m.code) (hl:p+Cd.wd (m.code.getD p 0)<m.code.length) :
  Agt cs ms m (p+Cd.wd (m.code.getD p 0))=(Afv m ((p+Cd.wd (m.code.getD p 0):Nat):Int)).or ((Agt cs ms m p).bind fun x=>(Agj cs ms m p x).bind fun z=>if Af5 (m.code.getD p 0)=true then some z else none):=by
 obtain⟨d,r,h⟩:=List.append_of_mem hp;obtain⟨r',rfl⟩:=Rl h hl;rw[Fz (d:=d++[p]) (r:=r') (by rw[h];simp),Fz h,List.foldl_append];rfl
def Akc (cs:List Rd.Cls) (ms:List Rd.Mth) (m:Rd.Mth) (q:Nat):Option Afb:=if q∈Cd.places m.code then Agt cs ms m q else none
theorem Ge {cs:List Rd.Cls}{ms:List Rd.Mth}{m:Rd.Mth}{q:Nat} (h:q∈Cd.places m.code):Akc cs ms m q=Agt cs ms m q:=if_pos h
theorem Et {cs:List Rd.Cls}{ms:List Rd.Mth}{m:Rd.Mth}{q:Nat} (h:q∈Cd.places m.code) {z:Afb} (hz:Afv m (q:Int)=some z):Agt cs ms m q=some z:=by
 obtain⟨d,r,h⟩:=List.append_of_mem h;rw[Fz h,hz];rfl
theorem Lx {cs:List Rd.Cls}{ms:List Rd.Mth} (k:Ahb cs ms) {m:Rd.Mth} (hm:m∈ms) {q:Nat} (hq:q∈Cd.places m.code) {x:Afb} (h:Agt cs ms m q=some x):Ahg (Tr.tree cs) m x:=by
 have g:=k.mt m hm;obtain⟨d,r,hs⟩:=List.append_of_mem hq;rw[Fz hs]at h;have key:∀ (d:List Nat) (o:Option Afb),(∀ p∈d,p∈Cd.places m.code)→(∀ y,o=some y→Ahg (Tr.tree cs) m y)→∀ y,d.foldl (fun o p=>Ah5 (fun p=>Afv m (p:Int)) (Agj cs ms m) (fun p=>Af5 (m.code.getD p 0)) p o) o=some y→Ahg (Tr.tree cs) m y:=by
  intro d
  induction d with
  | nil=>intro o _ ho y hy;exact ho y hy
  | cons p d ih =>
   intro o hd ho y hy;refine ih _ (fun p hp=>hd p (by simp[hp])) (fun z hz=>?_) y hy;unfold Ah5 at hz;simp only at hz;cases e:(Afv m (p:Int)).or o with
   | none=>rw[e]at hz;cases hz
   | some u =>
    rw[e]at hz;simp only[Option.bind_some]at hz;have hu:Ahg (Tr.tree cs) m u:=by
     cases e2:Afv m (p:Int) with
     | none=>rw[e2]at e;exact ho u e
     | some v=>rw[e2]at e;cases e;exact Gi g e2
    cases e3:Agj cs ms m p u with
    | none=>rw[e3]at hz;cases hz
    | some v =>
     rw[e3]at hz;simp only[Option.bind_some]at hz
     split at hz
     ·cases hz;exact Gd k hm (hd p (by simp)) hu e3
     ·cases hz
 cases e2:Afv m (q:Int) with
 | none =>
  rw[e2]at h;exact key d _ (fun p hp=>by rw[hs];simp[hp]) (fun y hy=>by cases hy;exact Gt g) x h
 | some v=>rw[e2]at h;cases h;exact Gi g e2
theorem J2 {cs:List Rd.Cls}{ms:List Rd.Mth}{m:Rd.Mth}:(Agw cs ms m).1=0↔(∀ z,Afv m 0=some z→Afh (Tr.tree cs) (Agc m) z=true)∧∀ p∈Cd.places m.code,∀ x,Agt cs ms m p=some x→Ajc cs ms m p x=0:=by
 unfold Agw Ajl;cases hz:Afv m 0 with
 | none =>
  rw[if_neg (by simp),Gy]
  simp
 | some z =>
  rw[show Afs (some z)=z from rfl];by_cases hf:Afh (Tr.tree cs) (Agc m) z=true
  ·rw[if_neg (fun g=>by rw[hf]at g;cases g.2),Gy]
   constructor
   ·intro h;exact⟨fun z' e=>by cases e;exact hf,h⟩
   ·intro h;exact h.2
  ·rw[if_pos ⟨rfl,by simpa using hf⟩]
   constructor
   ·intro h;simp at h
   ·intro h;exact absurd (h.1 z rfl) hf
theorem Tt {cs:List Rd.Cls}{ms:List Rd.Mth} (k:Ahb cs ms) {m:Rd.Mth} (hm:m∈ms) (hc:0<m.code.length) (h:(Agw cs ms m).1=0) :
  Ait (Afq cs ms m) (Akc cs ms m)∧∀ p∈Cd.places m.code,Akc cs ms m p≠none→∀ q,Aj5 (Afq cs ms m) p q→∃ z,Afv m (q:Int)=some z∧Akc cs ms m q=some z:=by
 have g:=k.mt m hm;have gE:=Fo k hm hc;have hT:Tr.Ok (Tr.tree cs):=k.ok;obtain⟨h0,h1⟩:=J2.1 h;have fit:∀ {x y:Afb},Ahg (Tr.tree cs) m x→Ahg (Tr.tree cs) m y→Afh (Tr.tree cs) x y=true→Afu (Tr.tree cs) x y:=fun hx hy hf=>Ih.1 (by rw[← Ez hT (Fb hx) (Fb hy)];exact hf);have lk:∀ p∈Cd.places m.code,∀ x,Agt cs ms m p=some x→_:=fun p hp x hx=>Ps.1 (show Aif _ _ _ _ _ _ _ _=0 from h1 p hp x hx);have inv:∀ p x,Akc cs ms m p=some x→Ahg (Tr.tree cs) m x:=by
  intro p x hx;unfold Akc at hx;by_cases hp:p∈Cd.places m.code
  ·rw[if_pos hp]at hx;exact Lx k hm hp hx
  ·rw[if_neg hp]at hx;cases hx
 have hI:∀ {h':Rd.Hnd}{x:Afb}{z:Afb},h'∈m.handlers→Ahg (Tr.tree cs) m x→Ahg (Tr.tree cs) m z→Afh (Tr.tree cs) ⟨x.locals,[(3,h'.cl)]⟩ z=true→Afu (Tr.tree cs) (Agf x h') z:=by
  intro h' x z hh hx hz hf;refine Ih.1 ?_;rw[← Ez hT ?_ (Fb hz)]
  ·exact hf
  ·refine⟨fun t ht=>(hx.tl t ht).1,fun t ht=>?_⟩;have:t=(3,h'.cl):=by simpa[Agf] using ht
   rw[this];exact(gE.hnd h' hh).2.2.2
 refine⟨⟨inv,?_,?_⟩,?_⟩
 ·have hz:=Kv hc;rw[Ge hz,Lc hc];cases e:Afv m 0 with
  | none=>exact⟨_,rfl,.refl _ _⟩
  | some z=>exact⟨z,rfl,fit (Gt g) (Gi g e) (h0 z e)⟩
 ·intro p hp x hx;have hp':p∈Cd.places m.code:=hp;have hP:=inv p x hx;rw[Ge hp']at hx;obtain⟨a1,y,a2,a3,a4⟩:=lk p hp' x hx;have hy:=Gd k hm hp' hP a2;refine⟨⟨y,a2⟩,?_⟩;intro q u b hg;cases hg using Ah2.el with
  | hnd h' hh hcov =>
   obtain⟨z,e1,e2⟩:=Eh.1 a1 h' hh hcov;have gh:=gE.hnd h' hh;have eq:((h'.target.toNat:Nat):Int)=h'.target:=by omega
   have hz:=Gi g e1;have hl:=hI hh hP hz e2;refine⟨gh.1,gh.2.1,?_,⟨z,?_,hl⟩,fun _=>trivial⟩
   ·have:=hl.st.len;have:=hz.hi;show ((Agf x h').stack.length:Int)≤m.stack;omega
   ·rw[Ge gh.2.2.1];exact Et gh.2.2.1 (by rw[eq];exact e1)
  | jmp u hu hj =>
   have:u=y:=by have:=hu.symm.trans a2;cases this;rfl
   subst this;obtain⟨z,e1,e2⟩:=a3 hj;have gt:=gE.tgt p hp hj;have eq:((((Afq cs ms m).ar p).toNat:Nat):Int)=(Afq cs ms m).ar p:=by omega
   have hz:=Gi g e1;refine⟨gt.1,gt.2.1,hy.hi,⟨z,?_,fit hy hz e2⟩,fun _=>trivial⟩;rw[Ge gt.2.2];exact Et gt.2.2 (by rw[eq];exact e1)
  | nxt u hu hgo =>
   have:u=y:=by have:=hu.symm.trans a2;cases this;rfl
   subst this;obtain⟨e1,e2⟩:=a4 hgo;have hn:p+Cd.wd (m.code.getD p 0)<m.code.length:=by omega
   have eq:((Afq cs ms m).nx p).toNat=p+Cd.wd (m.code.getD p 0):=by
    show ((p:Int)+(Cd.wd (m.code.getD p 0):Int)).toNat=_;omega
   have hpn:=Ll hp' hn;have hen:(Afq cs ms m).nx p=((p+Cd.wd (m.code.getD p 0):Nat):Int):=by
    show (p:Int)+(Cd.wd (m.code.getD p 0):Int)=_;omega
   have hgo':Af5 (m.code.getD p 0)=true:=hgo;refine⟨by rw[hen];omega,by rw[hen];exact e1,hy.hi,?_,fun h=>(by cases h)⟩;rw[eq,Ge hpn,Li hp' hn,hx];simp only[Option.bind_some];have a2':Agj cs ms m p x=some u:=a2;rw[a2',Option.bind_some,if_pos hgo'];cases e:Afv m ((p+Cd.wd (m.code.getD p 0):Nat):Int) with
   | none=>exact⟨u,rfl,.refl _ _⟩
   | some z=>exact⟨z,rfl,fit hy (Gi g e) (e2 z e)⟩
 ·intro p hp hne q ha;cases hx:Akc cs ms m p with
  | none=>exact absurd hx hne
  | some x =>
   rw[Ge hp]at hx;obtain⟨a1,y,a2,a3,a4⟩:=lk p hp x hx;rcases ha with ⟨h',hh,hcov,rfl⟩ | ⟨hj,rfl⟩
   ·obtain⟨z,e1,e2⟩:=Eh.1 a1 h' hh hcov;have gh:=gE.hnd h' hh;have eq:((h'.target.toNat:Nat):Int)=h'.target:=by omega
    refine⟨z,by rw[eq];exact e1,?_⟩;rw[Ge gh.2.2.1];exact Et gh.2.2.1 (by rw[eq];exact e1)
   ·obtain⟨z,e1,e2⟩:=a3 hj;have gt:=gE.tgt p hp hj;have eq:((((Afq cs ms m).ar p).toNat:Nat):Int)=(Afq cs ms m).ar p:=by omega
    refine⟨z,by rw[eq];exact e1,?_⟩;rw[Ge gt.2.2];exact Et gt.2.2 (by rw[eq];exact e1)
theorem La (c:List Int):∀ (k p0 q:Nat),q∈Cd.starts c k p0→q=p0∨∃ p∈Cd.starts c k p0,q=p+Cd.wd (c.getD p 0)
 | 0,p0,q,h=>by simp[Cd.starts]at h
 | k+1,p0,q,h=>by
  unfold Cd.starts at h ⊢;by_cases hp:p0<c.length
  ·rw[if_pos hp]at h ⊢;rcases List.mem_cons.1 h with rfl | h
   ·exact .inl rfl
   ·rcases La c k _ q h with e|⟨p,h1,h2⟩
    ·exact .inr ⟨p0,by simp,e⟩
    ·exact .inr ⟨p,List.mem_cons_of_mem _ h1,h2⟩
  ·rw[if_neg hp]at h;simp at h
theorem Tj {cs:List Rd.Cls}{ms:List Rd.Mth} (k:Ahb cs ms) {m:Rd.Mth} (hm:m∈ms) (hc:0<m.code.length) {F:Nat→Option Afb} (hF:Ait (Afq cs ms m) F)
  (hM:∀ (q:Nat) z,Afv m (q:Int)=some z→F q=some z) (hA:∀ p∈Cd.places m.code,F p≠none→∀ q,Aj5 (Afq cs ms m) p q→∃ z,Afv m (q:Int)=some z):(Agw cs ms m).1=0:=by
 have g:=k.mt m hm;have gE:=Fo k hm hc;have hT:Tr.Ok (Tr.tree cs):=k.ok;have fit:∀ {x y:Afb},Afy (Tr.tree cs) x→Afy (Tr.tree cs) y→Afu (Tr.tree cs) x y→Afh (Tr.tree cs) x y=true:=fun hx hy h=>by rw[Ez hT hx hy];exact Ih.2 h
 have aI:∀ {p x},F p=some x→Afy (Tr.tree cs) x:=fun h=>(hF.inv _ _ h).arg;have key:∀ p,p∈Cd.places m.code→∀ x,Agt cs ms m p=some x→∃ z,F p=some z∧Afu (Tr.tree cs) x z:=by
  intro p
  induction p using Nat.strongRecOn with
  | _ p ih =>
   intro hp x hx;cases e:Afv m (p:Int) with
   | some z =>
    rw[Et hp e]at hx;cases hx;exact⟨x,hM p x e,.refl _ _⟩
   | none =>
    rcases La m.code _ 0 p hp with rfl|⟨p',h1,h2⟩
    ·rw[Lc hc,show Afv m 0=none from e]at hx;cases hx;exact hF.x0
    ·have hp':p'∈Cd.places m.code:=h1;have hl:=Jr hp;have hw:=Cd.wd_bd (m.code.getD p' 0);rw[h2]at hl hx e ⊢;rw[Li hp' hl,e]at hx;cases ea:Agt cs ms m p' with
     | none=>rw[ea]at hx;cases hx
     | some x' =>
      rw[ea]at hx;simp only[Option.bind_some,Option.or]at hx;cases er:Agj cs ms m p' x' with
      | none=>rw[er]at hx;cases hx
      | some u =>
       rw[er]at hx;simp only[Option.bind_some]at hx
       split at hx
       ·next hgo =>
        cases hx;obtain⟨z',hz',hle⟩:=ih p' (by omega) hp' x' ea;have hPx:=Lx k hm hp' ea;have hPz:=hF.inv _ _ hz';have sat:=hF.sat p' hp' z' hz';obtain⟨y',hy'⟩:=sat.rl;obtain⟨u',hu',hle2⟩:=gE.mono p' hp' x' z' y' hPx hPz hle hy';have:u'=x:=by have:=hu'.symm.trans er;cases this;rfl
        subst this;obtain⟨_,_,_,⟨v,hv,hle3⟩,_⟩:=sat.go _ _ _ (.nxt y' hy' hgo);have en:((Afq cs ms m).nx p').toNat=p'+Cd.wd (m.code.getD p' 0):=by
         show ((p':Int)+(Cd.wd (m.code.getD p' 0):Int)).toNat=_;omega
        rw[en]at hv;exact⟨v,hv,hle2.trans gE hle3 (Fb (Gd k hm hp' hPx er)) (gE.rl p' hp' z' y' hPz hy').arg (aI hv)⟩
       ·cases hx
 refine J2.2 ⟨fun z hz=>?_,fun p hp x hx=>?_⟩
 ·obtain⟨y,hy,hle⟩:=hF.x0;have:=hM 0 z hz;rw[this]at hy;cases hy;exact fit (Fb (Gt g)) (aI this) hle
 ·obtain⟨z,hz,hle⟩:=key p hp x hx;have hPx:=Lx k hm hp hx;have hPz:=hF.inv _ _ hz;have sat:=hF.sat p hp z hz;obtain⟨y,hy⟩:=sat.rl;obtain⟨u,hu,hle2⟩:=gE.mono p hp x z y hPx hPz hle hy;have aU:=Fb (Gd k hm hp hPx hu);have aY:=(gE.rl p hp z y hPz hy).arg;have hne:F p≠none:=by rw[hz];simp
  refine Ps.2 ⟨Eh.2 fun h' hh hcov=>?_,u,hu,fun hj=>?_,fun hgo=>?_⟩
  ·have gh:=gE.hnd h' hh;have eq:((h'.target.toNat:Nat):Int)=h'.target:=by omega
   obtain⟨_,_,_,⟨v,hv,hle3⟩,_⟩:=sat.go _ _ _ (.hnd h' hh hcov);obtain⟨z2,h2⟩:=hA p hp hne _ (.inl ⟨h',hh,hcov,rfl⟩);have h3:=hM _ _ h2;rw[hv]at h3;cases h3;rw[eq]at h2;have aC:∀ {w:Afb},Ahg (Tr.tree cs) m w→Afy (Tr.tree cs) (Agf w h'):=fun hw=>⟨fun t ht=>(hw.tl t ht).1,fun t ht=>by
    have:t=(3,h'.cl):=by simpa[Agf] using ht
    rw[this];exact gh.2.2.2⟩
   refine⟨v,h2,fit (aC hPx) (aI hv) ?_⟩;exact Afu.trans gE (y:=Agf z h') ⟨hle.lo,.refl _ _⟩ hle3 (aC hPx) (aC hPz) (aI hv)
  ·have gt:=gE.tgt p hp hj;have eq:((((Afq cs ms m).ar p).toNat:Nat):Int)=(Afq cs ms m).ar p:=by omega
   obtain⟨_,_,_,⟨v,hv,hle3⟩,_⟩:=sat.go _ _ _ (.jmp y hy hj);obtain⟨z2,h2⟩:=hA p hp hne _ (.inr ⟨hj,rfl⟩);have h3:=hM _ _ h2;rw[hv]at h3;cases h3;rw[eq]at h2;exact⟨v,h2,fit aU (aI hv) (hle2.trans gE hle3 aU aY (aI hv))⟩
  ·obtain⟨h0,h1,_,⟨v,hv,hle3⟩,_⟩:=sat.go _ _ _ (.nxt y hy hgo);have en:(Afq cs ms m).nx p=((p+Cd.wd (m.code.getD p 0):Nat):Int):=by
    show (p:Int)+(Cd.wd (m.code.getD p 0):Int)=_;omega
   rw[en]at h1 hv;refine⟨h1,fun z2 h2=>?_⟩;have h3:=hM _ _ h2;rw[Int.toNat_natCast,h3]at hv;cases hv;exact fit aU (aI h3) (hle2.trans gE hle3 aU aY (aI h3))
theorem Xa {f:Rd.Fil} (hf:FilB f):(Agd f).length≤15000:=by
 obtain⟨cs,ms⟩:=f;have h6:=hf.c6;have m6:=hf.m6;simp only at h6 m6;unfold Agd Ai0;simp only[List.length_append,List.length_cons,List.length_nil];have h1:=Fg Aha 10 cs (fun x hx=>by have:=(hf.cb x hx).fl;simp only[Aha,List.length_cons,Dg];omega);have h2:=Fg Agl 2330 ms (fun m hm=>by
  have b:=hf.mb m hm;have g1:=b.pl;have g2:=b.c2;have g3:=b.h4;have g4:=b.lo;have g5:=b.st;have g6:=b.m6;have h3:=Fg Ag0 34 m.maps (fun q hq=>by
   have l1:=(b.mb q hq).lo;have l2:=(b.mb q hq).hi;simp only[Ag0,List.length_cons,List.length_append,Dg];omega)
  have h4:=Fg Aho 4 m.handlers (fun q _=>by simp[Aho]);simp only[Agl,Ai8,Ahj,Aie,List.length_append,List.length_cons,List.length_nil,Dg,Ahc,List.length_map];omega)
 omega
theorem Ks {CR:Rd.Mth→Int × Int}:∀ (l:List Rd.Mth) (k:Nat),(Agx CR k l).1=0↔∀ m∈l,(CR m).1=0
 | [],_=>by simp[Agx]
 | m::r,k=>by
  unfold Agx;by_cases h:(CR m).1=0
  ·rw[if_neg (fun g=>g h),Ks r (k+1)];simp[h]
  ·rw[if_pos h]
   constructor
   ·intro g;exact absurd g h
   ·intro g;exact absurd (g m (by simp)) h
theorem Aay {s:List UInt8} (h:(Rf.formed s).1=0):(Agu s).1=0↔∀ m∈(Rd.read s).1.methods,(Agw (Rd.read s).1.classes (Rd.read s).1.methods m).1=0:=by
 unfold Agu Ajb;rw[if_neg (fun g=>g h)];exact Ks _ _
theorem Lm {FM:Rd.Mth→Option (List Rd.Mp)}:∀ (ms:List Rd.Mth),(∀ m∈ms,(FM m).isSome=true)→∃ r,Af1 FM ms=some r
 | [],_=>⟨[],rfl⟩
 | m::ms,h=>by
  obtain⟨r,hr⟩:=Lm ms (fun x hx=>h x (by simp[hx]));obtain⟨mp,hm⟩:=Option.isSome_iff_exists.1 (h m (by simp));exact⟨_,by unfold Af1;rw[hm,hr];rfl⟩
theorem Pe {FM:Rd.Mth→Option (List Rd.Mp)}:∀ (ms r:List Rd.Mth),Af1 FM ms=some r→∀ (i:Nat) (m':Rd.Mth),r[i]?=some m'→∃ m mp,ms[i]?=some m∧FM m=some mp∧m'=m.withMaps mp
 | [],r,h,i,m',hi=>by cases h;simp at hi
 | m::ms,r,h,i,m',hi=>by
  unfold Af1 at h;cases hf:FM m with
  | none=>rw[hf]at h;cases h
  | some mp =>
   rw[hf]at h;simp only at h;cases hr:Af1 FM ms with
   | none=>rw[hr]at h;cases h
   | some r' =>
    rw[hr]at h;cases h;cases i with
    | zero=>simp only[List.getElem?_cons_zero,Option.some.injEq]at hi;exact⟨m,mp,rfl,hf,hi.symm⟩
    | succ i=>exact Pe ms r' hr i m' (by simpa using hi)
theorem Lk {cs:List Rd.Cls}{ms:List Rd.Mth} (k:Ahb cs ms) {m:Rd.Mth} (hm:m∈ms) (hc:0<m.code.length) (h:(Agw cs ms m).1=0) :
  ∃ mp,Af8 cs ms m=some mp∧∀ q∈mp,∃ z,Afv m q.place=some z∧Afu (Tr.tree cs) ⟨q.locals,q.stack⟩ z:=by
 have gE:=Fo k hm hc;obtain⟨hL,hA⟩:=Hi k hm;obtain⟨_,_,s3,s4⟩:=Ip gE hL hA;obtain⟨sol,maps⟩:=Tt k hm hc h;obtain⟨hop,least⟩:=s4 _ sol;have hop':(Agg cs ms m).hop=false:=hop;obtain⟨_,_,aim⟩:=s3 hop;refine⟨Af7 0 (Agg cs ms m).sp,by unfold Af8;rw[if_neg (by rw[hop'];simp)],fun q hq=>?_⟩;obtain⟨i,p,h1,h2,rfl⟩:=Gg _ _ _ hq;have ea:(Agg cs ms m).at i=p:=by unfold Afd.at;rw[List.getD_eq_getElem?_getD,h1];rfl
 have hw:((Agg cs ms m).at i).wa=true:=by rw[ea];exact h2
 have hst:((Agg cs ms m).at i).st=true:=(I8 gE hL hA hop (q:=i) hw).1;obtain⟨p',hp',hF,ha⟩:=(aim i).1 hw;cases hx:(Af6 (Afq cs ms m) (Afk cs ms m) (Cd.readL m.code)).F p' with
 | none=>exact absurd hx hF
 | some x =>
  obtain⟨y,hy,_⟩:=least p' x hx;obtain⟨z,e1,e2⟩:=maps p' hp' (by rw[hy];simp) i ha;have hfi:(Af6 (Afq cs ms m) (Afk cs ms m) (Cd.readL m.code)).F i=some p.fr:=Cy.2 ⟨hst,by show ((Agg cs ms m).at i).fr=p.fr;rw[ea]⟩;obtain⟨z',e3,e4⟩:=least i p.fr hfi;rw[e2]at e3;cases e3;refine⟨z,?_,e4⟩;simp only[Nat.zero_add];exact e1
theorem Qh {s:List UInt8} (h0:(Rf.formed s).1=0) (h:(Agu s).1=0):∃ r,Af1 (Af8 (Rd.read s).1.classes (Rd.read s).1.methods) (Rd.read s).1.methods=some r ∧
  ∀ (i:Nat) (m':Rd.Mth),r[i]?=some m'→∃ m,(Rd.read s).1.methods[i]?=some m∧∀ q∈m'.maps,∃ z,Afv m q.place=some z∧Afu (Tr.tree (Rd.read s).1.classes) ⟨q.locals,q.stack⟩ z:=by
 obtain⟨k,_,_⟩:=Cu _ h0;have hc:=Jx _ (H6 h0);have hz:=(Aay h0).1 h;obtain⟨r,hr⟩:=Lm (FM:=Af8 (Rd.read s).1.classes (Rd.read s).1.methods) (Rd.read s).1.methods (fun m hm=>by
  obtain⟨mp,e,_⟩:=Lk k hm (hc m hm) (hz m hm);rw[e];rfl)
 refine⟨r,hr,fun i m' hi=>?_⟩;obtain⟨m,mp,h1,h2,rfl⟩:=Pe _ _ hr i m' hi;have hm:m∈(Rd.read s).1.methods:=List.mem_of_getElem? h1;obtain⟨mp',e,hl⟩:=Lk k hm (hc m hm) (hz m hm);rw[h2]at e;cases e;exact⟨m,h1,hl⟩
theorem Ae3 (b:ByteArray):(⟨b.data.toList.toArray⟩:ByteArray)=b:=by cases b;simp
structure Mc.Call where
 meth:Int
 pos:Nat
 next:Nat
 lo:List Int
 st:List Int
 h:Nat
def Mc.zeros:List Int:=[0,0,0,0,0,0,0,0]
def Mc.push (v:Int) (c:Mc.Call):Mc.Call:=if 8≤c.h then c else ⟨c.meth,c.pos,c.next,c.lo,c.st.set c.h v,c.h+1⟩
def Mc.pop (c:Mc.Call):Int × Mc.Call:=if c.h=0 then (0,c) else (c.st.getD (c.h-1) 0,⟨c.meth,c.pos,c.next,c.lo,c.st,c.h-1⟩)
def Mc.popN:Nat→Mc.Call→List Int × Mc.Call
 | 0,c=>([],c)
 | k+1,c=>((Mc.popN k (Mc.pop c).2).1++[(Mc.pop c).1],(Mc.popN k (Mc.pop c).2).2)
def Mc.loc (n:Int) (c:Mc.Call):Int:=if n<0 then 0 else if 8≤n then 0 else c.lo.getD n.toNat 0
def Mc.setLoc (n v:Int) (c:Mc.Call):Mc.Call:=if n<0 then c else if 8≤n then c else ⟨c.meth,c.pos,c.next,c.lo.set n.toNat v,c.st,c.h⟩
def Mc.take (o:Int) (t:Nat) (c:Mc.Call):Mc.Call:=⟨c.meth,c.pos,t,c.lo,c.st.set 0 o,1⟩
def Mc.fill:Nat→List Int→Mc.Call→Mc.Call
 | _,[],c=>c
 | i,v::r,c=>Mc.fill (i+1) r (Mc.setLoc (i:Int) v c)
def Mc.newCall (m:Int) (vs:List Int):Mc.Call:=Mc.fill 0 vs ⟨m,0,0,Mc.zeros,Mc.zeros,0⟩
def Mc.signed (b:Int):Int:=if 127<b then b-256 else b
def Mc.w32 (v:Int):Int:=(v+2147483648) % 4294967296-2147483648
def Mc.reckoned (op x y:Int):Option Int :=
 if op=7 then some (Mc.w32 (Mc.w32 x+Mc.w32 y)) else if op=8 then some (Mc.w32 (Mc.w32 x-Mc.w32 y)) else if op=9 then some (Mc.w32 (Mc.w32 x*Mc.w32 y))
 else if Mc.w32 y=0 then none else some (Mc.w32 ((Mc.w32 x).tdiv (Mc.w32 y)))
def Mc.move (op n:Int) (c:Mc.Call):Mc.Call :=
 if op=0 then Mc.push (Mc.signed n) c
 else if op=1 then Mc.push 0 c
 else if op=2 then Mc.push (Mc.loc n c) c
 else if op=3 then Mc.setLoc n (Mc.pop c).1 (Mc.pop c).2
 else if op=4 then (Mc.pop c).2
 else if op=5 then Mc.push (Mc.pop c).1 (Mc.push (Mc.pop c).1 (Mc.pop c).2)
 else if op=6 then Mc.push (Mc.pop (Mc.pop c).2).1 (Mc.push (Mc.pop c).1 (Mc.pop (Mc.pop c).2).2)
 else c
def Mc.goTo (t:Nat) (c:Mc.Call):Mc.Call:=⟨c.meth,c.pos,t,c.lo,c.st,c.h⟩
def Mc.branch (op n:Int) (c:Mc.Call):Mc.Call :=
 if op=12 then (if (Mc.pop c).1=0 then Mc.goTo n.toNat (Mc.pop c).2 else (Mc.pop c).2)
 else if op=13 then (if (Mc.pop (Mc.pop c).2).1<(Mc.pop c).1 then Mc.goTo n.toNat (Mc.pop (Mc.pop c).2).2 else (Mc.pop (Mc.pop c).2).2)
 else if op=14 then (if (Mc.pop c).1=0 then Mc.goTo n.toNat (Mc.pop c).2 else (Mc.pop c).2)
 else Mc.goTo n.toNat c
structure Mc.E where
 T:List Int
 FL:List (List (Int × Int))
 ms:List Rd.Mth
 ins:List Int
 room:Int
 depth:Int
structure Mc.S where
 read:Nat
 objs:List (Int × List Int)
 now:Mc.Call
 wait:List Mc.Call
 ended:Bool
 out:List Int
 status:Int
 value:Int
 steps:Nat
def Mc.S.withNow (S:Mc.S) (c:Mc.Call):Mc.S:=⟨S.read,S.objs,c,S.wait,S.ended,S.out,S.status,S.value,S.steps⟩
def Mc.S.withObjs (S:Mc.S) (l:List (Int × List Int)):Mc.S:=⟨S.read,l,S.now,S.wait,S.ended,S.out,S.status,S.value,S.steps⟩
def Mc.S.opened (S:Mc.S) (c:Mc.Call):Mc.S:=⟨S.read,S.objs,c,S.wait++[S.now],S.ended,S.out,S.status,S.value,S.steps⟩
def Mc.S.fin (S:Mc.S) (st v:Int):Mc.S:=⟨S.read,S.objs,S.now,S.wait,true,S.out,st,v,S.steps⟩
def Mc.S.push (S:Mc.S) (v:Int):Mc.S:=S.withNow (Mc.push v S.now)
def Mc.S.popped (S:Mc.S):Mc.S:=S.withNow (Mc.pop S.now).2
def Mc.S.top (S:Mc.S):Int:=(Mc.pop S.now).1
def Mc.noMeth:Rd.Mth:=⟨0,0,[],(0,0),0,0,[],[],[]⟩
def Mc.E.meth (E:Mc.E) (n:Int):Rd.Mth:=if n<0 then Mc.noMeth else if (E.ms.length:Int)≤n then Mc.noMeth else E.ms.getD n.toNat Mc.noMeth
def Mc.has (r:Int) (l:List (Int × List Int)):Bool:=decide (1≤r)&&decide (r≤(l.length:Int))
def Mc.obj (r:Int) (l:List (Int × List Int)):Int × List Int:=l.getD (r-1).toNat (0,[])
def Mc.classOf (r:Int) (l:List (Int × List Int)):Int:=if Mc.has r l=true then (Mc.obj r l).1 else 0
def Mc.hasField (r s:Int) (l:List (Int × List Int)):Bool:=Mc.has r l&&(decide (0≤s)&&decide (s<((Mc.obj r l).2.length:Int)))
def Mc.getF (r s:Int) (l:List (Int × List Int)):Int:=if Mc.hasField r s l=true then (Mc.obj r l).2.getD s.toNat 0 else 0
def Mc.putF (r s v:Int) (l:List (Int × List Int)):List (Int × List Int):=if Mc.hasField r s l=true then l.set (r-1).toNat ((Mc.obj r l).1,(Mc.obj r l).2.set s.toNat v) else l
def Mc.setF (r:Int) (fs:List Int) (l:List (Int × List Int)):List (Int × List Int):=if Mc.has r l=true then l.set (r-1).toNat ((Mc.obj r l).1,fs) else l
def Mc.slot (T:List Int) (FL:List (List (Int × Int))) (n:Int):Int :=
 if (Afr n FL 0 0).1 = -1 then -1 else ((Afm T FL (Afr n FL 0 0).1).length:Int)-((Aig FL (Afr n FL 0 0).1).length:Int)+(Afr n FL 0 0).2
def Mc.targetOf (T:List Int) (cl:Int) (pos:Nat):List Rd.Hnd→Option Nat
 | []=>none
 | h::r=>if (Af2 h (pos:Int)&&Tr.within T cl h.cl)=true then some h.target.toNat else Mc.targetOf T cl pos r
def Mc.E.target (E:Mc.E) (cl:Int) (c:Mc.Call):Option Nat:=Mc.targetOf E.T cl c.pos (E.meth c.meth).handlers
def Mc.throwN (E:Mc.E) (o cl:Int):Nat→Mc.S→Mc.S
 | 0,S=>S
 | k+1,S=>match E.target cl S.now with
  | some t=>S.withNow (Mc.take o t S.now)
  | none=>match S.wait.getLast? with
   | none=>S.fin 2 cl
   | some c=>Mc.throwN E o cl k ⟨S.read,S.objs,c,S.wait.dropLast,S.ended,S.out,S.status,S.value,S.steps⟩
def Mc.throw (E:Mc.E) (o:Int) (S:Mc.S):Mc.S:=Mc.throwN E o (Mc.classOf o S.objs) (S.wait.length+1) S
def Mc.throwGiven (E:Mc.E) (cl:Int) (S:Mc.S):Mc.S:=Mc.throw E (cl-2+1) S
def Mc.openCall (E:Mc.E) (m:Int) (vs:List Int) (S:Mc.S):Mc.S :=
 if E.depth≤(S.wait.length:Int)+1 then Mc.throwGiven E 6 S else S.opened (Mc.newCall m vs)
def Mc.popsS (k:Nat) (S:Mc.S):Mc.S:=S.withNow (Mc.popN k S.now).2
def Mc.popsV (k:Nat) (S:Mc.S):List Int:=(Mc.popN k S.now).1
def Mc.call (E:Mc.E) (n:Int) (S:Mc.S):Mc.S:=Mc.openCall E n (Mc.popsV (E.meth n).params.length S) (Mc.popsS (E.meth n).params.length S)
def Mc.nearTo (T:List Int) (cl name:Int):List Rd.Mth→Int→Int→Int→Int
 | [],_,found,_=>found
 | m::r,i,found,high=>if (m.name==name&&(decide (high≤m.cl)&&Tr.within T cl m.cl))=true then Mc.nearTo T cl name r (i+1) i m.cl else Mc.nearTo T cl name r (i+1) found high
def Mc.E.nearest (E:Mc.E) (cl name:Int):Int:=Mc.nearTo E.T cl name E.ms 0 0 0
def Mc.sendTo (E:Mc.E) (name o:Int) (vs:List Int) (S:Mc.S):Mc.S :=
 if o=0 then Mc.throwGiven E 3 S else Mc.openCall E (E.nearest (Mc.classOf o S.objs) name) (o::vs) S
def Mc.send (E:Mc.E) (n:Int) (S:Mc.S):Mc.S :=
 Mc.sendTo E (E.meth n).name (Mc.popsS (E.meth n).params.length S).top (Mc.popsV (E.meth n).params.length S) (Mc.popsS (E.meth n).params.length S).popped
def Mc.backTo (res:Int × Int) (v:Int) (S:Mc.S):Mc.S:=match S.wait.getLast? with
 | none=>S.fin 0 (if res.1=1 then v else 0)
 | some c=>⟨S.read,S.objs,(if res.1=0 then c else Mc.push v c),S.wait.dropLast,S.ended,S.out,S.status,S.value,S.steps⟩
def Mc.giveBack (E:Mc.E) (S:Mc.S):Mc.S :=
 if (E.meth S.now.meth).result.1=0 then Mc.backTo (E.meth S.now.meth).result 0 S else Mc.backTo (E.meth S.now.meth).result S.top S.popped
def Mc.throwTaken (E:Mc.E) (S:Mc.S):Mc.S:=if S.top=0 then Mc.throwGiven E 3 S.popped else Mc.throw E S.top S.popped
def Mc.inp (E:Mc.E) (S:Mc.S):Mc.S :=
 if S.read<E.ins.length then (⟨S.read+1,S.objs,S.now,S.wait,S.ended,S.out,S.status,S.value,S.steps⟩:Mc.S).push (E.ins.getD S.read 0) else S.push 0
def Mc.outp (S:Mc.S):Mc.S:=⟨S.read,S.objs,(Mc.pop S.now).2,S.wait,S.ended,S.out++[S.top],S.status,S.value,S.steps⟩
def Mc.reckon (E:Mc.E) (op:Int) (S:Mc.S):Mc.S:=match Mc.reckoned op S.popped.top S.top with
 | none=>Mc.throwGiven E 2 S.popped.popped
 | some z=>S.popped.popped.push z
def Mc.create (E:Mc.E) (cl:Int) (S:Mc.S):Mc.S :=
 if E.room≤(S.objs.length:Int)-5 then Mc.throwGiven E 5 S else (S.withObjs (S.objs++[(cl,[])])).push ((S.objs.length:Int)+1)
def Mc.setFields (E:Mc.E) (cl:Int) (S:Mc.S):Mc.S :=
 (Mc.popsS (Afm E.T E.FL cl).length S).popped.withObjs (Mc.setF (Mc.popsS (Afm E.T E.FL cl).length S).top (Mc.popsV (Afm E.T E.FL cl).length S) S.objs)
def Mc.getField (E:Mc.E) (n:Int) (S:Mc.S):Mc.S:=if S.top=0 then Mc.throwGiven E 3 S.popped else S.popped.push (Mc.getF S.top (Mc.slot E.T E.FL n) S.objs)
def Mc.putField (E:Mc.E) (n:Int) (S:Mc.S):Mc.S :=
 if S.popped.top=0 then Mc.throwGiven E 3 S.popped.popped else S.popped.popped.withObjs (Mc.putF S.popped.top (Mc.slot E.T E.FL n) S.top S.objs)
def Mc.cast (E:Mc.E) (cl:Int) (S:Mc.S):Mc.S :=
 if S.top=0 then S.popped.push S.top else if Tr.within E.T (Mc.classOf S.top S.objs) cl=true then S.popped.push S.top else Mc.throwGiven E 4 S.popped
def Mc.act (E:Mc.E) (op n:Int) (S:Mc.S):Mc.S :=
 if op≤6 then S.withNow (Mc.move op n S.now)
 else if op≤10 then Mc.reckon E op S
 else if op≤14 then S.withNow (Mc.branch op n S.now)
 else if op=15 then Mc.create E n S
 else if op=16 then Mc.setFields E n S
 else if op=17 then Mc.getField E n S
 else if op=18 then Mc.putField E n S
 else if op=19 then Mc.cast E n S
 else if op=20 then Mc.call E n S
 else if op=21 then Mc.send E n S
 else if op=22 then Mc.giveBack E S
 else if op=23 then Mc.throwTaken E S
 else if op=24 then Mc.inp E S
 else if op=25 then Mc.outp S
 else S
def Mc.one (E:Mc.E) (c:Mc.Call):Cd.Ins:=Cd.orZero (Cd.one (E.meth c.meth).code c.next)
def Mc.begun (E:Mc.E) (S:Mc.S):Mc.S :=
 ⟨S.read,S.objs,⟨S.now.meth,S.now.next,(Mc.one E S.now).place.toNat+Cd.wd (Mc.one E S.now).op,S.now.lo,S.now.st,S.now.h⟩,S.wait,S.ended,S.out,S.status,S.value,S.steps+1⟩
def Mc.step (E:Mc.E) (S:Mc.S):Mc.S:=Mc.act E (Mc.one E S.now).op (Mc.one E S.now).n (Mc.begun E S)
def Mc.loop (E:Mc.E) (fuel:Nat):Nat→Mc.S→Mc.S
 | 0,S=>S
 | k+1,S=>if S.ended=true then S else if fuel≤S.steps then S.fin 1 0 else Mc.loop E fuel k (Mc.step E S)
def Mc.start (entry:Int):Mc.S:=⟨0,[(2,[]),(3,[]),(4,[]),(5,[]),(6,[])],Mc.newCall entry [],[],false,[],0,0,0⟩
def Mc.run (E:Mc.E) (fuel:Nat) (entry:Int):Mc.S:=Mc.loop E fuel (fuel+2) (Mc.start entry)
structure Mc.Mild (S R:Mc.S):Prop where
 steps:R.steps=S.steps
 out:R.out=S.out∨∃ v,R.out=S.out++[v]
 fin:S.ended=false→R.ended=true→R.status=0∨R.status=2
structure Mc.Calm (S R:Mc.S):Prop where
 steps:R.steps=S.steps
 out:R.out=S.out
 fin:S.ended=false→R.ended=true→R.status=0∨R.status=2
theorem Mc.Calm.mild {S R:Mc.S} (h:Mc.Calm S R):Mc.Mild S R:=⟨h.steps,.inl h.out,h.fin⟩
theorem Mc.Calm.refl (S:Mc.S):Mc.Calm S S:=⟨rfl,rfl,fun h1 h2=>by rw[h1]at h2;cases h2⟩
theorem Mc.Calm.same {S R:Mc.S} (h1:R.steps=S.steps) (h2:R.out=S.out) (h3:R.ended=S.ended):Mc.Calm S R:=⟨h1,h2,fun a b=>by rw[h3,a]at b;cases b⟩
theorem Mc.Calm.then {S R Q:Mc.S} (h1:R.steps=S.steps) (h2:R.out=S.out) (h3:R.ended=S.ended) (h:Mc.Calm R Q):Mc.Calm S Q :=
 ⟨h.steps.trans h1,h.out.trans h2,fun a b=>h.fin (h3.trans a) b⟩
theorem Ld (E:Mc.E) (o cl:Int):∀ (k:Nat) (S:Mc.S),Mc.Calm S (Mc.throwN E o cl k S)
 | 0,S=>Mc.Calm.refl S
 | k+1,S=>by
  unfold Mc.throwN;cases E.target cl S.now with
  | some t=>exact Mc.Calm.same rfl rfl rfl
  | none =>
   cases S.wait.getLast? with
   | none=>exact⟨rfl,rfl,fun _ _=>.inr rfl⟩
   | some c=>exact Mc.Calm.then (R:=⟨S.read,S.objs,c,S.wait.dropLast,S.ended,S.out,S.status,S.value,S.steps⟩) rfl rfl rfl (Ld E o cl k _)
theorem Nl (E:Mc.E) (o:Int) (S:Mc.S):Mc.Calm S (Mc.throw E o S):=Ld _ _ _ _ _
theorem Cs (E:Mc.E) (cl:Int) (S:Mc.S):Mc.Calm S (Mc.throwGiven E cl S):=Nl _ _ _
theorem I9 (E:Mc.E) (m:Int) (vs:List Int) (S:Mc.S):Mc.Calm S (Mc.openCall E m vs S):=by
 unfold Mc.openCall
 split
 ·exact Cs _ _ _
 ·exact Mc.Calm.same rfl rfl rfl
theorem Ky (r:Int × Int) (v:Int) (S:Mc.S):Mc.Calm S (Mc.backTo r v S):=by
 unfold Mc.backTo;cases S.wait.getLast? with
 | none=>exact⟨rfl,rfl,fun _ _=>.inl rfl⟩
 | some c=>exact Mc.Calm.same rfl rfl rfl
theorem Aab (E:Mc.E) (op n:Int) (S:Mc.S):Mc.Mild S (Mc.act E op n S):=by
 unfold Mc.act;by_cases c0:op≤6
 ·rw[if_pos c0];exact Mc.Calm.mild (Mc.Calm.same rfl rfl rfl)
 rw[if_neg c0];by_cases c1:op≤10
 ·rw[if_pos c1];unfold Mc.reckon;cases Mc.reckoned op S.popped.top S.top with
  | none=>exact Mc.Calm.mild (Mc.Calm.then (R:=S.popped.popped) rfl rfl rfl (Cs _ _ _))
  | some z=>exact Mc.Calm.mild (Mc.Calm.same rfl rfl rfl)
 rw[if_neg c1];by_cases c2:op≤14
 ·rw[if_pos c2];exact Mc.Calm.mild (Mc.Calm.same rfl rfl rfl)
 rw[if_neg c2];by_cases c3:op=15
 ·rw[if_pos c3];unfold Mc.create
  split
  ·exact Mc.Calm.mild (Cs _ _ _)
  ·exact Mc.Calm.mild (Mc.Calm.same rfl rfl rfl)
 rw[if_neg c3];by_cases c4:op=16
 ·rw[if_pos c4];exact Mc.Calm.mild (Mc.Calm.same rfl rfl rfl)
 rw[if_neg c4];by_cases c5:op=17
 ·rw[if_pos c5];unfold Mc.getField
  split
  ·exact Mc.Calm.mild (Mc.Calm.then (R:=S.popped) rfl rfl rfl (Cs _ _ _))
  ·exact Mc.Calm.mild (Mc.Calm.same rfl rfl rfl)
 rw[if_neg c5];by_cases c6:op=18
 ·rw[if_pos c6];unfold Mc.putField
  split
  ·exact Mc.Calm.mild (Mc.Calm.then (R:=S.popped.popped) rfl rfl rfl (Cs _ _ _))
  ·exact Mc.Calm.mild (Mc.Calm.same rfl rfl rfl)
 rw[if_neg c6];by_cases c7:op=19
 ·rw[if_pos c7];unfold Mc.cast
  split
  ·exact Mc.Calm.mild (Mc.Calm.same rfl rfl rfl)
  ·split
   ·exact Mc.Calm.mild (Mc.Calm.same rfl rfl rfl)
   ·exact Mc.Calm.mild (Mc.Calm.then (R:=S.popped) rfl rfl rfl (Cs _ _ _))
 rw[if_neg c7];by_cases c8:op=20
 ·rw[if_pos c8];exact Mc.Calm.mild (Mc.Calm.then (R:=Mc.popsS (E.meth n).params.length S) rfl rfl rfl (I9 _ _ _ _))
 rw[if_neg c8];by_cases c9:op=21
 ·rw[if_pos c9];refine Mc.Calm.mild (Mc.Calm.then (R:=(Mc.popsS (E.meth n).params.length S).popped) rfl rfl rfl ?_);unfold Mc.send Mc.sendTo
  split
  ·exact Cs _ _ _
  ·exact I9 _ _ _ _
 rw[if_neg c9];by_cases c10:op=22
 ·rw[if_pos c10];unfold Mc.giveBack
  split
  ·exact Mc.Calm.mild (Ky _ _ _)
  ·exact Mc.Calm.mild (Mc.Calm.then (R:=S.popped) rfl rfl rfl (Ky _ _ _))
 rw[if_neg c10];by_cases c11:op=23
 ·rw[if_pos c11];unfold Mc.throwTaken
  split
  ·exact Mc.Calm.mild (Mc.Calm.then (R:=S.popped) rfl rfl rfl (Cs _ _ _))
  ·exact Mc.Calm.mild (Mc.Calm.then (R:=S.popped) rfl rfl rfl (Nl _ _ _))
 rw[if_neg c11];by_cases c12:op=24
 ·rw[if_pos c12];unfold Mc.inp
  split
  ·exact Mc.Calm.mild (Mc.Calm.same rfl rfl rfl)
  ·exact Mc.Calm.mild (Mc.Calm.same rfl rfl rfl)
 rw[if_neg c12];by_cases c13:op=25
 ·rw[if_pos c13];exact⟨rfl,.inr ⟨_,rfl⟩,fun a b=>by rw[show (Mc.outp S).ended=S.ended from rfl,a]at b;cases b⟩
 rw[if_neg c13];exact Mc.Calm.mild (Mc.Calm.refl S)
theorem Jj (E:Mc.E) (S:Mc.S):(Mc.step E S).steps=S.steps+1∧((Mc.step E S).out=S.out∨∃ v,(Mc.step E S).out=S.out++[v])∧(S.ended=false→(Mc.step E S).ended=true→(Mc.step E S).status=0∨(Mc.step E S).status=2):=by
 have h:=Aab E (Mc.one E S.now).op (Mc.one E S.now).n (Mc.begun E S);exact⟨h.steps,h.out,h.fin⟩
def Mc.it (E:Mc.E):Nat→Mc.S→Mc.S
 | 0,S=>S
 | k+1,S=>if S.ended=true then S else Mc.it E k (Mc.step E S)
def Mc.close (R:Mc.S):Mc.S:=if R.ended=true then R else R.fin 1 0
theorem Xj (E:Mc.E) (k:Nat) {S:Mc.S} (h:S.ended=true):Mc.it E k S=S:=by cases k<;>simp[Mc.it,h]
theorem Ui (E:Mc.E) (f:Nat):∀ (d k:Nat) (S:Mc.S),S.steps+d=f→d+2≤k→Mc.loop E f k S=Mc.close (Mc.it E d S)
 | d,0,S,_,hk=>by omega
 | d,k+1,S,hd,hk=>by
  unfold Mc.loop;by_cases h:S.ended=true
  ·rw[if_pos h,Xj E d h];unfold Mc.close;rw[if_pos h]
  ·rw[if_neg h];cases d with
   | zero=>rw[if_pos (by omega)];unfold Mc.close;rw[Mc.it,if_neg h]
   | succ e =>
    rw[if_neg (by omega),Mc.it,if_neg h];exact Ui E f e k _ (by rw[(Jj E S).1];omega) (by omega)
theorem Aer (E:Mc.E) (f:Nat) (entry:Int):Mc.run E f entry=Mc.close (Mc.it E f (Mc.start entry)):=by
 have:(Mc.start entry).steps=0:=rfl;exact Ui E f f (f+2) _ (by rw[this];omega) (by omega)
end Go.Proofs.YtpcgnjolfahacaaGreat
