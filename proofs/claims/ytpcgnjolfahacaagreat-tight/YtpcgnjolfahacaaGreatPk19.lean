/- a part of the proofs -/
import Derived.Test.YtpcgnjolfahacaaGreatPk18
set_option maxRecDepth 100000
set_option maxHeartbeats 40000000
set_option linter.unusedVariables false
set_option linter.unusedSimpArgs false
namespace Go.Proofs.YtpcgnjolfahacaaGreat
open Go.RowKit
def By (n:Int):Prop:=0≤n∧n≤255
def TyB (t:Int × Int):Prop:=By t.1∧By t.2
def Lies (s:List UInt8) (p:Nat) (l:List UInt8):Prop:=∃ r,s.drop p=l++r
theorem Lies.cut {s:List UInt8}{p:Nat}{a b:List UInt8} (h:Lies s p (a++b)):Lies s p a∧Lies s (p+a.length) b:=by
 obtain⟨r,h⟩:=h;refine⟨⟨b++r,by rw[h,List.append_assoc]⟩,⟨r,?_⟩⟩;rw[← List.drop_drop,h,List.append_assoc,List.drop_left]
theorem Lies.head {s:List UInt8}{p:Nat}{x:UInt8}{l:List UInt8} (h:Lies s p (x::l)):s[p]?=some x∧p<s.length∧Lies s (p+1) l:=by
 obtain⟨r,h⟩:=h;have h0:s[p]?=some x:=by
  have:=congrArg (·[0]?) h
  simpa using this
 refine⟨h0,(List.getElem?_eq_some_iff.1 h0).1,⟨r,?_⟩⟩;rw[← List.drop_drop,h];rfl
theorem P9 {n:Int} (h:By n):((Zy n).toNat:Int)=n:=by
 unfold Zy;obtain⟨h0,h1⟩:=h;rw[UInt8.toNat_ofNat',Int.emod_eq_of_lt (by omega) (by omega),Nat.mod_eq_of_lt (by omega)];omega
theorem Bq {s:List UInt8}{p:Nat}{n:Int}{l:List UInt8} (hn:By n) (h:Lies s p (Zy n::l)):Rd.nx s ⟨p,false⟩=(n,⟨p+1,false⟩)∧Lies s (p+1) l:=by
 obtain⟨h0,h1,h2⟩:=h.head;refine⟨?_,h2⟩;unfold Rd.nx;rw[if_neg (by simp),if_neg (by simp only;omega),h0];simp only[Option.getD_some];rw[P9 hn]
theorem Cx {s:List UInt8}{p:Nat}{n a b:Int}{l:List UInt8} (hn:By n) (ha:a≤n) (hb:n≤b) (h:Lies s p (Zy n::l)):Rd.cn s a b ⟨p,false⟩=(n,⟨p+1,false⟩)∧Lies s (p+1) l:=by
 obtain⟨h0,h1⟩:=Bq hn h;refine⟨?_,h1⟩;unfold Rd.cn;rw[h0];simp only;rw[if_neg (by omega),if_neg (by omega)]
theorem Eb {s:List UInt8}{α:Type} (f:Rd.St→α × Rd.St) (W:α→List UInt8) (l:List α) (hf:∀ x∈l,∀ p,Lies s p (W x)→f ⟨p,false⟩=(x,⟨p+(W x).length,false⟩)) (p:Nat) (h:Lies s p (l.flatMap W)) :
  Rd.rep f l.length ⟨p,false⟩=(l,⟨p+(l.flatMap W).length,false⟩):=by
 have key:∀ k,k≤l.length→Rd.rep f k ⟨p,false⟩=(l.take k,⟨p+((l.take k).flatMap W).length,false⟩):=by
  intro k
  induction k with
  | zero=>intro _;simp[Rd.rep]
  | succ k ih =>
   intro hk;have hkl:k<l.length:=by omega
   rw[Rd.rep,ih (by omega)];have e:l.flatMap W=(l.take k).flatMap W++(W l[k]++(l.drop (k+1)).flatMap W):=by
    conv=>lhs;rw[← List.take_append_drop k l,List.flatMap_append,List.drop_eq_getElem_cons hkl,List.flatMap_cons]
   rw[e]at h;have h2:=h.cut.2.cut.1;simp only;rw[hf l[k] (List.getElem_mem hkl) _ h2,List.take_succ_eq_append_getElem hkl];simp only[List.flatMap_append,List.flatMap_cons,List.flatMap_nil,List.append_nil,List.length_append];rw[Nat.add_assoc]
 have:=key l.length (Nat.le_refl _)
 rwa [List.take_length]at this
theorem P4 {s:List UInt8}{p:Nat}{t:Int × Int} (ht:TyB t) (h:Lies s p (Aav t)):Rd.ty s ⟨p,false⟩=(t,⟨p+2,false⟩):=by
 obtain⟨t1,t2⟩:=t;obtain⟨a,b⟩:=Bq ht.1 h;obtain⟨c,_⟩:=Bq ht.2 b;unfold Rd.ty;rw[a];simp only;rw[c]
theorem Bb (l:List (Int × Int)):(Aaa l).length=2*l.length:=by
 induction l with
 | nil=>rfl
 | cons t r ih=>simp only[Aaa,List.flatMap_cons,List.length_append,List.length_cons]at ih ⊢;rw[ih];simp[Aav];omega
theorem Ha {s:List UInt8}{p:Nat}{l:List (Int × Int)} (hl:∀ t∈l,TyB t) (h:Lies s p (Aaa l)):Rd.tys s l.length ⟨p,false⟩=(l,⟨p+2*l.length,false⟩):=by
 unfold Rd.tys;rw[Eb (Rd.ty s) Aav l (fun t ht q hq=>by rw[P4 (hl t ht) hq];rfl) p h,← Bb];rfl
structure ClsB (c:Rd.Cls):Prop where
 ab:By c.above
 fl:c.fields.length≤4
 ty:∀ t∈c.fields,TyB t
theorem Vy {s:List UInt8}{p:Nat}{c:Rd.Cls} (hc:ClsB c) (h:Lies s p (Aat c)):Rd.cls s ⟨p,false⟩=(c,⟨p+(Aat c).length,false⟩):=by
 obtain⟨ab,fl⟩:=c;have hl:=hc.fl;simp only at hl;obtain⟨a1,a2⟩:=Bq hc.ab h;obtain⟨b1,b2⟩:=Cx (n:=(fl.length:Int)) (a:=0) (b:=4) ⟨by omega,by omega⟩ (by omega) (by omega) a2;have c1:=Ha (p:=p+1+1) hc.ty b2;unfold Rd.cls;rw[a1];simp only;rw[b1];simp only[Int.toNat_natCast];rw[c1];simp only[Aat,List.length_cons,Bb];rw[show p+1+1+2*fl.length=p+(2*fl.length+1+1) by omega]
structure HndB (h:Rd.Hnd):Prop where
 fr:By h.frm
 tl:By h.til
 tg:By h.target
 cl:By h.cl
theorem Wn {s:List UInt8}{p:Nat}{c:Rd.Hnd} (hc:HndB c) (h:Lies s p (Abu c)):Rd.hnd s ⟨p,false⟩=(c,⟨p+(Abu c).length,false⟩):=by
 obtain⟨x,y,z,u⟩:=c;obtain⟨a1,a2⟩:=Bq hc.fr h;obtain⟨b1,b2⟩:=Bq hc.tl a2;obtain⟨c1,c2⟩:=Bq hc.tg b2;obtain⟨d1,_⟩:=Bq hc.cl c2;unfold Rd.hnd;simp only[a1,b1,c1,d1,Abu,List.length_cons,List.length_nil]
theorem Tv {s:List UInt8}{p:Nat}{l:List Rd.Hnd} (h4:l.length≤4) (hl:∀ c∈l,HndB c) (h:Lies s p (Abj l)):Rd.hnds s ⟨p,false⟩=(l,⟨p+(Abj l).length,false⟩):=by
 obtain⟨b1,b2⟩:=Cx (n:=(l.length:Int)) (a:=0) (b:=4) ⟨by omega,by omega⟩ (by omega) (by omega) h;unfold Rd.hnds;simp only[b1,Int.toNat_natCast];rw[Eb (Rd.hnd s) Abu l (fun t ht q hq=>Wn (hl t ht) hq) _ b2];simp only[Abj,List.length_cons];rw[show p+1+(l.flatMap Abu).length=p+((l.flatMap Abu).length+1) by omega]
structure MpB (lo hi:Int) (m:Rd.Mp):Prop where
 pl:By m.place
 lo:(m.locals.length:Int)=lo
 hi:(m.stack.length:Int)≤hi
 tl:∀ t∈m.locals,TyB t
 ts:∀ t∈m.stack,TyB t
theorem Xl {s:List UInt8}{p:Nat}{lo hi:Int}{m:Rd.Mp} (h255:hi≤255) (hm:MpB lo hi m) (h:Lies s p (Aao m)):Rd.mp s lo hi ⟨p,false⟩=(m,⟨p+(Aao m).length,false⟩):=by
 obtain⟨pl,ls,ss⟩:=m;have hl:=hm.lo;have hh:=hm.hi;simp only at hl hh;obtain⟨a1,a2⟩:=Bq hm.pl h;obtain⟨b1,b2⟩:=a2.cut;have b3:=Ha hm.tl b1;simp only[Bb]at b2 b3;obtain⟨c1,c2⟩:=Cx (n:=(ss.length:Int)) (a:=0) (b:=hi) ⟨by omega,by omega⟩ (by omega) hh b2;have d1:=Ha hm.ts c2;simp only at d1;unfold Rd.mp;have e1:lo.toNat=ls.length:=by omega
 simp only[a1,e1,b3,c1,Int.toNat_natCast,d1,Aao,List.length_cons,List.length_append,Bb];rw[show p+1+2*ls.length+1+2*ss.length=p+(2*ls.length+(2*ss.length+1)+1) by omega]
theorem Vu {s:List UInt8}{p:Nat}{lo hi:Int}{l:List Rd.Mp} (h255:hi≤255) (h64:l.length≤64) (hl:∀ c∈l,MpB lo hi c) (h:Lies s p (Ab5 l)):Rd.mps s lo hi ⟨p,false⟩=(l,⟨p+(Ab5 l).length,false⟩):=by
 obtain⟨b1,b2⟩:=Cx (n:=(l.length:Int)) (a:=0) (b:=64) ⟨by omega,by omega⟩ (by omega) (by omega) h;unfold Rd.mps;simp only[b1,Int.toNat_natCast];rw[Eb (Rd.mp s lo hi) Aao l (fun t ht q hq=>Xl h255 (hl t ht) hq) _ b2];simp only[Ab5,List.length_cons];rw[show p+1+(l.flatMap Aao).length=p+((l.flatMap Aao).length+1) by omega]
theorem Rn (l:List Int):l.map Zy=l.flatMap (fun x=>[Zy x]):=by
 induction l with
 | nil=>rfl
 | cons x r ih=>rw[List.map_cons,List.flatMap_cons,ih];rfl
theorem Se {s:List UInt8}{p:Nat}{l:List Int} (h1:1≤l.length) (h2:l.length≤120) (hl:∀ c∈l,By c) (h:Lies s p (Zy (l.length:Int)::l.map Zy)):Rd.codes s ⟨p,false⟩=(l,⟨p+1+l.length,false⟩):=by
 obtain⟨b1,b2⟩:=Cx (n:=(l.length:Int)) (a:=1) (b:=120) ⟨by omega,by omega⟩ (by omega) (by omega) h;have e:=Rn l;rw[e]at b2;unfold Rd.codes;simp only[b1,Int.toNat_natCast];rw[Eb (Rd.nx s) (fun x=>[Zy x]) l (fun t ht q hq=>(Bq (hl t ht) hq).1) _ b2,← e,List.length_map]
structure MthB (m:Rd.Mth):Prop where
 cl:By m.cl
 nm:By m.name
 pl:m.params.length≤4
 ps:∀ t∈m.params,TyB t
 rs:TyB m.result
 lo:0≤m.locals∧m.locals≤8
 st:0≤m.stack∧m.stack≤8
 c1:1≤m.code.length
 c2:m.code.length≤120
 cb:∀ x∈m.code,By x
 h4:m.handlers.length≤4
 hb:∀ h∈m.handlers,HndB h
 m6:m.maps.length≤64
 mb:∀ q∈m.maps,MpB m.locals m.stack q
theorem Ww {s:List UInt8}{p:Nat}{m:Rd.Mth} (hm:MthB m) (h:Lies s p (Aad m)):Rd.mth s ⟨p,false⟩=(m,⟨p+(Aad m).length,false⟩):=by
 have hpl:=hm.pl;have hlo:=hm.lo;have hst:=hm.st;obtain⟨cl,nm,ps,rs,lo,st,cd,hs,mp⟩:=m;simp only at hpl hlo hst;unfold Aad Abi at h;simp only[List.append_assoc]at h;obtain⟨g1,g2⟩:=Bq hm.cl h;obtain⟨a1,a2⟩:=Bq hm.nm g2;obtain⟨b1,b2⟩:=Cx (n:=(ps.length:Int)) (a:=0) (b:=4) ⟨by omega,by omega⟩ (by omega) (by omega) a2;obtain⟨c1,c2⟩:=Lies.cut (a:=Aaa ps) b2;have c3:=Ha hm.ps c1;simp only[Bb]at c2 c3;obtain⟨d1,d2⟩:=Lies.cut (a:=Aav rs) c2;have d3:=P4 hm.rs d1;obtain⟨e1,e2⟩:=Cx (n:=lo) (a:=0) (b:=8) ⟨by omega,by omega⟩ (by omega) (by omega) d2;obtain⟨f1,f2⟩:=Cx (n:=st) (a:=0) (b:=8) ⟨by omega,by omega⟩ (by omega) (by omega) e2;obtain⟨i1,i2⟩:=Lies.cut (a:=Zy (cd.length:Int)::cd.map Zy) f2;have i3:=Se hm.c1 hm.c2 hm.cb i1;obtain⟨j1,j2⟩:=Lies.cut (a:=Abj hs) i2;have j3:=Tv hm.h4 hm.hb j1;have k3:=Vu (hi:=st) (by omega) hm.m6 hm.mb j2;simp only[Aav,List.length_cons,List.length_nil,List.length_map]at e1 f1 i3 j3 k3 d3;unfold Rd.mth;simp only[g1,a1,b1,Int.toNat_natCast,c3,d3,e1,f1,i3];rw[show p+1+1+1+2*ps.length+2+1+1+1+cd.length=p+1+1+1+2*ps.length+(0+1+1)+1+1+(cd.length+1) by omega,j3];simp only;rw[k3];simp only[Aad,Abi,List.length_append,List.length_cons,List.length_nil,Bb,Aav,List.length_map]
 congr 2
 omega
structure FilB (f:Rd.Fil):Prop where
 c6:f.classes.length≤6
 cb:∀ c∈f.classes,ClsB c
 m1:1≤f.methods.length
 m6:f.methods.length≤6
 mb:∀ m∈f.methods,MthB m
theorem Wo {f:Rd.Fil} (hf:FilB f):Rd.fil (Aau f) ⟨0,false⟩=(f,⟨(Aau f).length,false⟩):=by
 obtain⟨s,hs⟩:∃ s,s=Aau f:=⟨_,rfl⟩;have h:Lies s 0 (Aau f):=⟨[],by rw[hs];simp⟩;have hL:s.length=(Aau f).length:=by rw[hs]
 rw[← hs];clear hs;obtain⟨cs,ms⟩:=f;have h6:=hf.c6;have m1:=hf.m1;have m6:=hf.m6;simp only at h6 m1 m6;unfold Aau Abv at h;simp only[List.append_assoc]at h;obtain⟨a1,a2⟩:=Bq (n:=83) ⟨by omega,by omega⟩ h;obtain⟨b1,b2⟩:=Bq (n:=77) ⟨by omega,by omega⟩ a2;obtain⟨c1,c2⟩:=Cx (n:=(cs.length:Int)) (a:=0) (b:=6) ⟨by omega,by omega⟩ (by omega) (by omega) b2;obtain⟨d1,d2⟩:=Lies.cut (a:=cs.flatMap Aat) c2;have d3:=Eb (Rd.cls s) Aat cs (fun c hc q hq=>Vy (hf.cb c hc) hq) _ d1;obtain⟨e1,e2⟩:=Cx (n:=(ms.length:Int)) (a:=1) (b:=6) ⟨by omega,by omega⟩ (by omega) (by omega) d2;have f3:=Eb (Rd.mth s) Aad ms (fun m hm q hq=>Ww (hf.mb m hm) hq) _ e2;unfold Rd.fil;have x1:Rd.ex s 83 ⟨0,false⟩=⟨0+1,false⟩:=by unfold Rd.ex;rw[a1,if_pos rfl]
 have x2:Rd.ex s 77 ⟨0+1,false⟩=⟨0+1+1,false⟩:=by unfold Rd.ex;rw[b1,if_pos rfl]
 simp only[x1,x2,c1,Int.toNat_natCast,d3,e1,f3];rw[hL];simp only[Aau,Abv,List.length_append,List.length_cons,List.length_nil]
def Hole (s s':List UInt8) (p:Nat) (o t:Int × Int):Prop:=∃ u v,s=u++(Aav o++v)∧s'=u++(Aav t++v)∧u.length=p
theorem Hole.left {s s':List UInt8}{p:Nat}{o t:Int × Int} (h:Hole s s' p o t) (c:List UInt8):Hole (c++s) (c++s') (c.length+p) o t:=by
 obtain⟨u,v,rfl,rfl,rfl⟩:=h;exact⟨c++u,v,by rw[List.append_assoc],by rw[List.append_assoc],by simp⟩
theorem Hole.right {s s':List UInt8}{p:Nat}{o t:Int × Int} (h:Hole s s' p o t) (c:List UInt8):Hole (s++c) (s' ++ c) p o t:=by
 obtain⟨u,v,rfl,rfl,rfl⟩:=h;exact⟨u,v++c,by simp[List.append_assoc],by simp[List.append_assoc],rfl⟩
theorem Hole.flat {α:Type}{W:α→List UInt8}{l:List α}{i:Nat}{x':α}{p:Nat}{o t:Int × Int} (hi:i<l.length) (h:Hole (W l[i]) (W x') p o t):Hole (l.flatMap W) ((l.set i x').flatMap W) (((l.take i).flatMap W).length+p) o t:=by
 have e:l=l.take i++l[i]::l.drop (i+1):=by rw[← List.drop_eq_getElem_cons hi,List.take_append_drop]
 have e':l.set i x'=l.take i++x' :: l.drop (i+1):=by rw[List.set_eq_take_append_cons_drop,if_pos hi]
 have h1:l.flatMap W=(l.take i).flatMap W++(W l[i]++(l.drop (i+1)).flatMap W):=by
  conv=>lhs;rw[e]
  rw[List.flatMap_append,List.flatMap_cons]
 rw[h1,e',List.flatMap_append,List.flatMap_cons];exact(h.right _).left _
theorem N1 {l:List (Int × Int)}{k:Nat} (hk:k<l.length) (t:Int × Int):Hole (Aaa l) (Aaa (l.set k t)) (2*k) l[k] t:=by
 have:=Hole.flat (W:=Aav) hk (x':=t) (p:=0) (o:=l[k]) (t:=t) ⟨[],[],by simp,by simp,rfl⟩;have e:((l.take k).flatMap Aav).length=2*k:=by
  have:=Bb (l.take k);unfold Aaa at this;rw[this,List.length_take,Nat.min_eq_left (by omega)]
 rw[e]at this;exact this
def Rd.Mp.put (m:Rd.Mp) (st:Bool) (k:Nat) (t:Int × Int):Rd.Mp:=if st=true then ⟨m.place,m.locals,m.stack.set k t⟩ else ⟨m.place,m.locals.set k t,m.stack⟩
def Rd.Mp.row (m:Rd.Mp) (st:Bool):List (Int × Int):=if st=true then m.stack else m.locals
def Rd.Mp.off (m:Rd.Mp) (st:Bool) (k:Nat):Nat:=if st=true then 2+2*m.locals.length+2*k else 1+2*k
theorem Xk {m:Rd.Mp}{st:Bool}{k:Nat} (hk:k<(m.row st).length) (t:Int × Int):Hole (Aao m) (Aao (m.put st k t)) (m.off st k) (m.row st)[k] t:=by
 obtain⟨pl,lo,sk⟩:=m;cases st with
 | true =>
  simp only[Rd.Mp.row,if_true]at hk;have h:=(N1 hk t).left (Zy pl::(Aaa lo++[Zy (sk.length:Int)]));simp only[Rd.Mp.put,Rd.Mp.row,Rd.Mp.off,if_true,Aao,List.length_set];have e:(Zy pl::(Aaa lo++[Zy (sk.length:Int)])).length+2*k=2+2*lo.length+2*k:=by simp[Bb];omega
  rw[e]at h
  simpa[List.append_assoc] using h
 | false =>
  simp only[Rd.Mp.row,Bool.false_eq_true,if_false]at hk;have h:=((N1 hk t).right (Zy (sk.length:Int)::Aaa sk)).left [Zy pl];simp only[Rd.Mp.put,Rd.Mp.row,Rd.Mp.off,Bool.false_eq_true,if_false,Aao];exact h
def Rd.Mth.putM (m:Rd.Mth) (j:Nat) (q:Rd.Mp):Rd.Mth:=⟨m.cl,m.name,m.params,m.result,m.locals,m.stack,m.code,m.handlers,m.maps.set j q⟩
theorem Wg {m:Rd.Mth}{j:Nat} (hj:j<m.maps.length) {q:Rd.Mp}{p:Nat}{o t:Int × Int} (h:Hole (Aao m.maps[j]) (Aao q) p o t):Hole (Aad m) (Aad (m.putM j q)) ((Abi m).length+(1+(((m.maps.take j).flatMap Aao).length+p))) o t:=by
 have h1:=((Hole.flat (W:=Aao) hj h).left [Zy (m.maps.length:Int)]).left (Abi m);unfold Aad Ab5;simp only[Rd.Mth.putM,List.length_set];exact h1
theorem Wu {cs:List Rd.Cls}{ms:List Rd.Mth}{i:Nat} (hi:i<ms.length) {m:Rd.Mth}{p:Nat}{o t:Int × Int} (h:Hole (Aad ms[i]) (Aad m) p o t):Hole (Aau ⟨cs,ms⟩) (Aau ⟨cs,ms.set i m⟩) ((Abv cs (ms.length:Int)).length+(((ms.take i).flatMap Aad).length+p)) o t:=by
 have h1:=(Hole.flat (W:=Aad) hi h).left (Abv cs (ms.length:Int));unfold Aau;simp only[List.length_set];exact h1
theorem Hole.bytes {s s':List UInt8}{p:Nat}{o t:Int × Int} (h:Hole s s' p o t):p+1<s.length∧s[p]?=some (Zy o.1)∧s[p+1]?=some (Zy o.2)∧s'=s.take p++(Aav t++s.drop (p+2)):=by
 obtain⟨u,v,rfl,rfl,rfl⟩:=h;refine⟨by simp[Aav],by simp[Aav],by simp[Aav],?_⟩;rw[List.take_left,← List.drop_drop,List.drop_left];rfl
def Et.at (s:List UInt8) (i:Nat):Nat:=(s[i]?.getD 0).toNat
theorem Et.at_lt (s:List UInt8) (i:Nat):Et.at s i≤255:=by
 have:=(s[i]?.getD 0).toNat_lt;unfold Et.at;omega
def Et.skip (s:List UInt8):Nat→Nat→Nat
 | 0,i=>i
 | k+1,i=>Et.skip s k (i+2+2*Et.at s (i+1))
def Et.row (i:Nat):Nat→List Nat
 | 0=>[]
 | k+1=>Et.row i k++[i+2*k]
theorem Et.row_mem {i n x:Nat} (h:x∈Et.row i n):∃ k,k<n∧x=i+2*k:=by
 induction n with
 | zero=>simp[Et.row]at h
 | succ n ih =>
  simp only[Et.row,List.mem_append,List.mem_singleton]at h;rcases h with h | h
  ·obtain⟨k,a,b⟩:=ih h;exact⟨k,by omega,b⟩
  ·exact⟨n,by omega,h⟩
theorem Et.row_len (i n:Nat):(Et.row i n).length=n:=by
 induction n with
 | zero=>rfl
 | succ n ih=>simp[Et.row,ih]
def Et.maps (s:List UInt8) (lo:Nat):Nat→Nat→List Nat→List Nat × Nat
 | 0,i,l=>(l,i)
 | k+1,i,l=>if i<s.length then Et.maps s lo k (i+2+2*lo+2*Et.at s (i+1+2*lo)) (l++Et.row (i+1) lo++Et.row (i+2+2*lo) (Et.at s (i+1+2*lo))) else (l,i)
def Et.a1 (s:List UInt8) (i:Nat):Nat:=i+3+2*Et.at s (i+2)
def Et.a2 (s:List UInt8) (i:Nat):Nat:=Et.a1 s i+4+1+Et.at s (Et.a1 s i+4)
def Et.a3 (s:List UInt8) (i:Nat):Nat:=Et.a2 s i+1+4*Et.at s (Et.a2 s i)
def Et.mths (s:List UInt8):Nat→Nat→List Nat→List Nat
 | 0,_,l=>l
 | k+1,i,l=>if i<s.length then Et.mths s k (Et.maps s (Et.at s (Et.a1 s i+2)) (Et.at s (Et.a3 s i)) (Et.a3 s i+1) l).2 (Et.maps s (Et.at s (Et.a1 s i+2)) (Et.at s (Et.a3 s i)) (Et.a3 s i+1) l).1 else l
def Et.ents (s:List UInt8):List Nat:=Et.mths s (Et.at s (Et.skip s (Et.at s 2) 3)) (Et.skip s (Et.at s 2) 3+1) []
theorem Di {s:List UInt8}{p:Nat}{n:Int}{l:List UInt8} (hn:By n) (h:Lies s p (Zy n::l)):Et.at s p=n.toNat∧p<s.length∧Lies s (p+1) l:=by
 obtain⟨h0,h1,h2⟩:=h.head;refine⟨?_,h1,h2⟩;unfold Et.at;rw[h0,Option.getD_some];have:=P9 hn;omega
theorem Mg {s:List UInt8}:∀ (cs:List Rd.Cls) (p:Nat) (r:List UInt8),(∀ c∈cs,ClsB c)→Lies s p (cs.flatMap Aat++r)→Et.skip s cs.length p=p+(cs.flatMap Aat).length
 | [],p,_,_,_=>by simp[Et.skip]
 | c::cs,p,r,hc,h=>by
  have hb:=hc c (by simp);have hfl:=hb.fl;rw[List.flatMap_cons,List.append_assoc]at h;have h0:Lies s p (Zy c.above::Zy (c.fields.length:Int)::Aaa c.fields):=h.cut.1;obtain⟨_,_,h1⟩:=h0.head;obtain⟨e1,_,_⟩:=Di (n:=(c.fields.length:Int)) ⟨by omega,by omega⟩ h1;have h2:=h.cut.2;rw[List.length_cons,Et.skip,e1,Int.toNat_natCast];have hl:(Aat c).length=2+2*c.fields.length:=by simp[Aat,Bb];omega
  rw[hl]at h2;rw[show p+2+2*c.fields.length=p+(2+2*c.fields.length) by omega,Mg cs _ r (fun x hx=>hc x (by simp[hx])) h2,List.flatMap_cons,List.length_append,hl];omega
theorem Ku (q:Rd.Mp):(Aao q).length=2+2*q.locals.length+2*q.stack.length:=by simp[Aao,Bb];omega
theorem Mc {s:List UInt8}{lo hi:Int} (hh:hi≤255):∀ (ms:List Rd.Mp) (p:Nat) (r:List UInt8) (l:List Nat),(∀ q∈ms,MpB lo hi q)→Lies s p (ms.flatMap Aao++r) →
  (Et.maps s lo.toNat ms.length p l).2=p+(ms.flatMap Aao).length ∧
  ∀ x∈(Et.maps s lo.toNat ms.length p l).1,x∈l∨∃ (j:Nat) (q:Rd.Mp) (st:Bool) (k:Nat),ms[j]?=some q∧k<(q.row st).length∧x=p+(((ms.take j).flatMap Aao).length+q.off st k)
 | [],p,_,l,_,_=>⟨by simp[Et.maps],fun x hx=>.inl hx⟩
 | q::ms,p,r,l,hq,h=>by
  have hb:=hq q (by simp);have hlo:=hb.lo;have hhi:=hb.hi;rw[List.flatMap_cons,List.append_assoc]at h;have h0:Lies s p (Zy q.place::(Aaa q.locals++Zy (q.stack.length:Int)::Aaa q.stack)):=h.cut.1;obtain⟨_,hp,h1⟩:=h0.head;have h2:=h1.cut.2;rw[Bb]at h2;obtain⟨e1,_,_⟩:=Di (n:=(q.stack.length:Int)) ⟨by omega,by omega⟩ h2;have e0:lo.toNat=q.locals.length:=by omega
  have h3:=h.cut.2;rw[Ku]at h3;obtain⟨i1,i2⟩:=Mc hh ms (p+(2+2*q.locals.length+2*q.stack.length)) r (l++Et.row (p+1) q.locals.length++Et.row (p+2+2*q.locals.length) q.stack.length) (fun x hx=>hq x (by simp[hx])) h3;rw[List.length_cons,Et.maps,if_pos hp,e0,e1,Int.toNat_natCast,show p+2+2*q.locals.length+2*q.stack.length=p+(2+2*q.locals.length+2*q.stack.length) by omega];rw[e0]at i1 i2;refine⟨by rw[i1,List.flatMap_cons,List.length_append,Ku];omega,fun x hx=>?_⟩;rcases i2 x hx with hx | ⟨j,q',st,k,a,b,c⟩
  ·simp only[List.mem_append]at hx;rcases hx with (hx | hx) | hx
   ·exact .inl hx
   ·obtain⟨k,a,b⟩:=Et.row_mem hx;exact .inr ⟨0,q,false,k,rfl,a,by rw[b];simp[Rd.Mp.off];omega⟩
   ·obtain⟨k,a,b⟩:=Et.row_mem hx;exact .inr ⟨0,q,true,k,rfl,a,by rw[b];simp[Rd.Mp.off];omega⟩
  ·refine .inr ⟨j+1,q',st,k,by simpa using a,b,?_⟩;rw[c,List.take_succ_cons,List.flatMap_cons,List.length_append,Ku];omega
theorem Xs {s:List UInt8}{p:Nat}{m:Rd.Mth}{r:List UInt8} (hm:MthB m) (h:Lies s p (Aad m++r)) :
  p<s.length∧Et.at s (Et.a1 s p+2)=m.locals.toNat∧Et.a3 s p=p+(Abi m).length∧Et.at s (Et.a3 s p)=m.maps.length∧Lies s (p+(Abi m).length+1) (m.maps.flatMap Aao++r):=by
 have hpl:=hm.pl;have hlo:=hm.lo;have hst:=hm.st;have hc:=hm.c2;have hh:=hm.h4;have hx:=hm.m6;obtain⟨cl,nm,ps,rs,lo,st,cd,hs,mp⟩:=m;simp only at hpl hlo hst hc hh hx;have hsplit:Lies s p ((Zy cl::Zy nm::Zy (ps.length:Int)::(Aaa ps++(Aav rs++(Zy lo::Zy st::Zy (cd.length:Int)::(cd.map Zy++(Zy (hs.length:Int)::(hs.flatMap Abu++(Zy (mp.length:Int)::(mp.flatMap Aao++r)))))))))):=by
  have e:Aad ⟨cl,nm,ps,rs,lo,st,cd,hs,mp⟩++r=(Zy cl::Zy nm::Zy (ps.length:Int)::(Aaa ps++(Aav rs++(Zy lo::Zy st::Zy (cd.length:Int)::(cd.map Zy++(Zy (hs.length:Int)::(hs.flatMap Abu++(Zy (mp.length:Int)::(mp.flatMap Aao++r))))))))):=by
   simp[Aad,Abi,Abj,Ab5,List.append_assoc]
  rw[← e];exact h
 obtain⟨_,hp,h1⟩:=hsplit.head;obtain⟨_,_,h2⟩:=h1.head;obtain⟨e2,_,h3⟩:=Di (n:=(ps.length:Int)) ⟨by omega,by omega⟩ h2;have h4:=h3.cut.2;rw[Bb]at h4;have h5:=h4.cut.2;rw[show (Aav rs).length=2 from rfl]at h5;obtain⟨e5,_,h6⟩:=Di (n:=lo) ⟨by omega,by omega⟩ h5;obtain⟨_,_,h7⟩:=h6.head;obtain⟨e7,_,h8⟩:=Di (n:=(cd.length:Int)) ⟨by omega,by omega⟩ h7;have h9:=h8.cut.2;rw[List.length_map]at h9;obtain⟨e9,_,h10⟩:=Di (n:=(hs.length:Int)) ⟨by omega,by omega⟩ h9;have h11:=h10.cut.2;have hhl:(hs.flatMap Abu).length=4*hs.length:=by
  clear h11 h10 e9 h9 h8 e7 h7 h6 e5 h5 h4 h3 e2 h2 h1 hsplit h hm hh
  induction hs with
  | nil=>rfl
  | cons x q ih=>rw[List.flatMap_cons,List.length_append,ih];simp[Abu];omega
 rw[hhl]at h11;obtain⟨e11,_,h12⟩:=Di (n:=(mp.length:Int)) ⟨by omega,by omega⟩ h11;rw[Int.toNat_natCast]at e2 e7 e9 e11;have a1:Et.a1 s p=p+3+2*ps.length:=by unfold Et.a1;rw[show p+2=p+1+1 by omega,e2]
 have a2:Et.a2 s p=p+3+2*ps.length+5+cd.length:=by
  unfold Et.a2;rw[a1,show p+3+2*ps.length+4=p+1+1+1+2*ps.length+2+1+1 by omega,e7]
 have a3:Et.a3 s p=p+3+2*ps.length+5+cd.length+1+4*hs.length:=by
  unfold Et.a3;rw[a2,show p+3+2*ps.length+5+cd.length=p+1+1+1+2*ps.length+2+1+1+1+cd.length by omega,e9]
 have hd:(Abi ⟨cl,nm,ps,rs,lo,st,cd,hs,mp⟩).length=3+2*ps.length+5+cd.length+1+4*hs.length:=by
  simp only[Abi,Abj,Aav,List.length_append,List.length_cons,List.length_nil,List.length_map,Bb,hhl];omega
 refine⟨hp,?_,by rw[a3,hd];omega,?_,?_⟩
 ·rw[a1,show p+3+2*ps.length+2=p+1+1+1+2*ps.length+2 by omega];exact e5
 ·rw[a3,show p+3+2*ps.length+5+cd.length+1+4*hs.length=p+1+1+1+2*ps.length+2+1+1+1+cd.length+1+4*hs.length by omega];exact e11
 ·rw[hd,show p+(3+2*ps.length+5+cd.length+1+4*hs.length)+1=p+1+1+1+2*ps.length+2+1+1+1+cd.length+1+4*hs.length+1 by omega];exact h12
def Et.In (base:Nat) (ms:List Rd.Mth) (x:Nat):Prop:=∃ (i:Nat) (m:Rd.Mth) (j:Nat) (q:Rd.Mp) (st:Bool) (k:Nat),ms[i]?=some m∧m.maps[j]?=some q∧k<(q.row st).length ∧
 x=base+(((ms.take i).flatMap Aad).length+((Abi m).length+(1+(((m.maps.take j).flatMap Aao).length+q.off st k))))
theorem Lf {s:List UInt8}:∀ (ms:List Rd.Mth) (p:Nat) (r:List UInt8) (l:List Nat),(∀ m∈ms,MthB m)→Lies s p (ms.flatMap Aad++r)→∀ x∈Et.mths s ms.length p l,x∈l∨Et.In p ms x
 | [],p,_,l,_,_=>fun x hx=>.inl hx
 | m::ms,p,r,l,hm,h=>by
  have hb:=hm m (by simp);rw[List.flatMap_cons,List.append_assoc]at h;obtain⟨hp,e1,e2,e3,h1⟩:=Xs hb h;have hs:=hb.st;obtain⟨i1,i2⟩:=Mc (lo:=m.locals) (hi:=m.stack) (by omega) m.maps _ _ l hb.mb h1;have h2:=h.cut.2;have hml:(Aad m).length=(Abi m).length+(1+(m.maps.flatMap Aao).length):=by simp[Aad,Ab5];omega
  intro x hx;rw[List.length_cons,Et.mths,if_pos hp,e1,e3,e2,i1]at hx;rw[show p+(Abi m).length+1+(m.maps.flatMap Aao).length=p+(Aad m).length by rw[hml];omega]at hx;rcases Lf ms _ r _ (fun y hy=>hm y (by simp[hy])) h2 x hx with hx | ⟨i,m',j,q,st,k,a,b,c,d⟩
  ·rcases i2 x hx with hx|⟨j,q,st,k,a,b,c⟩
   ·exact .inl hx
   ·exact .inr ⟨0,m,j,q,st,k,rfl,a,b,by rw[c];simp;omega⟩
  ·refine .inr ⟨i+1,m',j,q,st,k,by simpa using a,b,c,?_⟩;rw[d,List.take_succ_cons,List.flatMap_cons,List.length_append];omega
theorem Yr {f:Rd.Fil} (hf:FilB f):∀ x∈Et.ents (Aau f),Et.In (Abv f.classes (f.methods.length:Int)).length f.methods x:=by
 obtain⟨s,hs⟩:∃ s,s=Aau f:=⟨_,rfl⟩;have h:Lies s 0 (Aau f):=⟨[],by rw[hs];simp⟩;rw[← hs];clear hs;obtain⟨cs,ms⟩:=f;have h6:=hf.c6;have m1:=hf.m1;have m6:=hf.m6;simp only at h6 m1 m6;have h':Lies s 0 (Zy 83::Zy 77::Zy (cs.length:Int)::(cs.flatMap Aat++(Zy (ms.length:Int)::ms.flatMap Aad))):=by
  have e:Aau ⟨cs,ms⟩=(Zy 83::Zy 77::Zy (cs.length:Int)::(cs.flatMap Aat++(Zy (ms.length:Int)::ms.flatMap Aad))):=by
   simp[Aau,Abv,List.append_assoc];exact⟨rfl,rfl⟩
  rw[← e];exact h
 obtain⟨_,_,a2⟩:=h'.head;obtain⟨_,_,b2⟩:=a2.head;obtain⟨c1,_,c2⟩:=Di (n:=(cs.length:Int)) ⟨by omega,by omega⟩ b2;rw[Int.toNat_natCast]at c1;have d1:=Mg cs _ _ hf.cb c2;have d2:=c2.cut.2;obtain⟨e1,_,e2⟩:=Di (n:=(ms.length:Int)) ⟨by omega,by omega⟩ d2;rw[Int.toNat_natCast]at e1;have fr:(Abv cs (ms.length:Int)).length=3+(cs.flatMap Aat).length+1:=by simp[Abv];omega
 intro x hx;unfold Et.ents at hx;rw[show (2:Nat)=0+1+1 by omega,c1,show (3:Nat)=0+1+1+1 by omega,d1,e1]at hx;have e2':Lies s (0+1+1+1+(cs.flatMap Aat).length+1) (ms.flatMap Aad++[]):=by rw[List.append_nil];exact e2
 rcases Lf ms _ [] [] hf.mb e2' x hx with hx|⟨i,m,j,q,st,k,a,b,c,d⟩
 ·simp at hx
 ·exact⟨i,m,j,q,st,k,a,b,c,by rw[d,fr]⟩
theorem Ii {α:Type}{f:Rd.St→α × Rd.St}{P:α→Prop} (h:∀ t,P (f t).1):∀ (n:Nat) (t:Rd.St),∀ x∈(Rd.rep f n t).1,P x
 | 0,_,x,hx=>by simp[Rd.rep]at hx
 | n+1,t,x,hx=>by
  unfold Rd.rep at hx;simp only at hx;rcases List.mem_append.1 hx with hx | hx
  ·exact Ii h n t x hx
  ·rw[List.mem_singleton.1 hx];exact h _
theorem Zf (s:List UInt8) (t:Rd.St):TyB (Rd.ty s t).1:=⟨Rd.nx_bd s _,Rd.nx_bd s _⟩
theorem Mt (s:List UInt8) (n:Nat) (t:Rd.St):∀ x∈(Rd.tys s n t).1,TyB x:=Ii (Zf s) n t
theorem Zv (s:List UInt8) (t:Rd.St):ClsB (Rd.cls s t).1:=by
 refine⟨Rd.nx_bd s _,?_,Mt s _ _⟩;simp only[Rd.cls,Rd.tys,Rd.rep_len];have:=Rd.cn_bd s 0 4 (Rd.nx s t).2 (by omega);omega
theorem Zq (s:List UInt8) (t:Rd.St):HndB (Rd.hnd s t).1:=⟨Rd.nx_bd s _,Rd.nx_bd s _,Rd.nx_bd s _,Rd.nx_bd s _⟩
theorem Zw (s:List UInt8) (L H:Int) (hL:0≤L) (hH:0≤H) (t:Rd.St):MpB L H (Rd.mp s L H t).1:=by
 refine⟨Rd.nx_bd s _,?_,?_,Mt s _ _,Mt s _ _⟩
 ·simp only[Rd.mp,Rd.tys,Rd.rep_len];omega
 ·simp only[Rd.mp,Rd.tys,Rd.rep_len];have:=Rd.cn_bd s 0 H (Rd.rep (Rd.ty s) L.toNat (Rd.nx s t).2).2 hH;omega
theorem Zp (s:List UInt8) (t:Rd.St) (h:(Rd.mth s t).2.bad=false):MthB (Rd.mth s t).1:=by
 have hc:=M5 s t h;unfold Rd.mth at hc ⊢;simp only at hc ⊢;refine⟨Rd.nx_bd s _,Rd.nx_bd s _,?_,Mt s _ _,Zf s _,Rd.cn_bd s _ _ _ (by omega),Rd.cn_bd s _ _ _ (by omega),hc,?_,Ii (Rd.nx_bd s) _ _,?_,Ii (Zq s) _ _,?_,Ii (Zw s _ _ (Rd.cn_bd s _ _ _ (by omega)).1 (Rd.cn_bd s _ _ _ (by omega)).1) _ _⟩
 ·simp only[Rd.tys,Rd.rep_len];have:=Rd.cn_bd s 0 4 (Rd.nx s (Rd.nx s t).2).2 (by omega);omega
 ·simp only[Rd.codes,Rd.rep_len];have h1:=Rd.cn_bd s 1 120;generalize (Rd.cn s 0 8 _).2=u;have:=h1 u (by omega);omega
 ·simp only[Rd.hnds,Rd.rep_len];have h1:=Rd.cn_bd s 0 4;generalize (Rd.codes s _).2=u;have:=h1 u (by omega);omega
 ·simp only[Rd.mps,Rd.rep_len];have h1:=Rd.cn_bd s 0 64;generalize (Rd.hnds s _).2=u;have:=h1 u (by omega);omega
theorem Xg (s:List UInt8):∀ (n:Nat) (t:Rd.St),(Rd.rep (Rd.mth s) n t).2.bad=false→∀ m∈(Rd.rep (Rd.mth s) n t).1,MthB m
 | 0,_,_,m,hm=>by simp[Rd.rep]at hm
 | n+1,t,h,m,hm=>by
  unfold Rd.rep at h hm;simp only at h hm;rcases List.mem_append.1 hm with hm | hm
  ·refine Xg s n t ?_ m hm;cases hc:(Rd.rep (Rd.mth s) n t).2.bad with
   | false=>rfl
   | true=>rw[Kq s _ hc]at h;cases h
  ·rw[List.mem_singleton.1 hm];exact Zp s _ h
theorem Yx (s:List UInt8) (a b:Int) (t:Rd.St) (h:(Rd.cn s a b t).2.bad=false):a≤(Rd.cn s a b t).1:=by
 unfold Rd.cn at h ⊢
 split at h
 ·cases h
 ·split at h
  ·cases h
  ·next h1 h2=>rw[if_neg h1,if_neg h2];omega
theorem M3 (s:List UInt8) (h:(Rd.read s).2=0):FilB (Rd.read s).1:=by
 unfold Rd.read at h ⊢;by_cases h1:15000<s.length
 ·rw[if_pos h1]at h;simp at h
 rw[if_neg h1]at h ⊢;by_cases h2:(Rd.fil s ⟨0,false⟩).2.bad=true∨(Rd.fil s ⟨0,false⟩).2.pos≠s.length
 ·rw[if_pos h2]at h;simp at h
 rw[if_neg h2];have hb:(Rd.fil s ⟨0,false⟩).2.bad=false:=by
  cases hb:(Rd.fil s ⟨0,false⟩).2.bad with
  | false=>rfl
  | true=>exact absurd (.inl hb) h2
 unfold Rd.fil at hb ⊢;simp only at hb ⊢;generalize Rd.ex s 77 (Rd.ex s 83 ⟨0,false⟩)=u at *;have c1:=Rd.cn_bd s 0 6 u (by omega);generalize Rd.cn s 0 6 u=n at *;have hC:∀ c∈(Rd.rep (Rd.cls s) n.1.toNat n.2).1,ClsB c:=Ii (Zv s) _ _;have hl:(Rd.rep (Rd.cls s) n.1.toNat n.2).1.length=n.1.toNat:=Rd.rep_len _ _ _;generalize Rd.rep (Rd.cls s) n.1.toNat n.2=cs at *;have m1:=Rd.cn_bd s 1 6 cs.2 (by omega);have m2:=Yx s 1 6 cs.2;generalize Rd.cn s 1 6 cs.2=m at *;have m3:m.2.bad=false:=by
  cases hc:m.2.bad with
  | false=>rfl
  | true=>rw[Ej (Kq s) _ _ hc]at hb;cases hb
 have m4:=m2 m3;refine⟨by simp only;omega,hC,?_,?_,Xg s _ _ hb⟩
 ·simp only[Rd.rep_len];omega
 ·simp only[Rd.rep_len];omega
theorem Px {f:Rd.Fil} (hf:FilB f) (hl:(Aau f).length≤15000):Rd.read (Aau f)=(f,0):=by
 unfold Rd.read;rw[if_neg (by omega),Wo hf,if_neg (by simp)]
theorem Hw (c:List Int):∀ (k p0:Nat),c.length≤p0+k→∀ (d r:List Nat) (p:Nat),Cd.starts c k p0=d++p::r→p+Cd.wd (c.getD p 0)<c.length→∃ r',r=(p+Cd.wd (c.getD p 0))::r'
 | 0,p0,_,d,r,p,h,_=>by simp[Cd.starts]at h
 | k+1,p0,hk,d,r,p,h,hl=>by
  unfold Cd.starts at h;by_cases hp:p0<c.length
  ·rw[if_pos hp]at h;have hw:=Cd.wd_bd (c.getD p0 0);cases d with
   | nil =>
    simp only[List.nil_append,List.cons.injEq]at h;obtain⟨rfl,rfl⟩:=h;obtain⟨j,rfl⟩:∃ j,k=j+1:=⟨k-1,by omega⟩;unfold Cd.starts;rw[if_pos hl];exact⟨_,rfl⟩
   | cons e d =>
    simp only[List.cons_append,List.cons.injEq]at h;exact Hw c k _ (by omega) d r p h.2 hl
  ·rw[if_neg hp]at h;simp at h
theorem M6 {c:List Int}{d r:List Nat}{p:Nat} (h:Cd.places c=d++p::r) (hl:p+Cd.wd (c.getD p 0)<c.length):∃ r',r=(p+Cd.wd (c.getD p 0))::r':=Hw c c.length 0 (by omega) d r p h hl
theorem Fe {T:List Int}{mp:Int→Option Zx}{p:Int}{lo:List (Int × Int)}:∀ {hs:List Rd.Hnd},Acl T mp p lo hs=0↔∀ h∈hs,Aa3 h p=true→∃ z,mp h.target=some z∧Aae T ⟨lo,[(3,h.cl)]⟩ z=true
 | []=>by simp[Acl]
 | h::r=>by
  have ih:=Fe (T:=T) (mp:=mp) (p:=p) (lo:=lo) (hs:=r);unfold Acl;have hcov:Aa3 h p=true↔h.frm≤p∧p<h.til:=by unfold Aa3;simp
  by_cases h1:p<h.frm
  ·rw[if_pos h1,ih]
   constructor
   ·intro g x hx hc;rcases List.mem_cons.1 hx with rfl | hx
    ·have:=(hcov.1 hc).1;omega
    ·exact g x hx hc
   ·exact fun g x hx=>g x (by simp[hx])
  rw[if_neg h1];by_cases h2:h.til≤p
  ·rw[if_pos h2,ih]
   constructor
   ·intro g x hx hc;rcases List.mem_cons.1 hx with rfl | hx
    ·have:=(hcov.1 hc).2;omega
    ·exact g x hx hc
   ·exact fun g x hx=>g x (by simp[hx])
  rw[if_neg h2];have hc:Aa3 h p=true:=hcov.2 ⟨by omega,by omega⟩;cases hz:mp h.target with
  | none =>
   simp only[Option.isSome_none,if_true]
   constructor
   ·intro g;omega
   ·intro g;obtain⟨z,e,_⟩:=g h (by simp) hc;rw[hz]at e;cases e
  | some z =>
   rw[if_neg (show ¬ (some z).isSome=false by simp),show Aap (some z)=z from rfl];by_cases hf:Aae T ⟨lo,[(3,h.cl)]⟩ z=true
   ·rw[if_neg (show ¬ Aae T ⟨lo,[(3,h.cl)]⟩ z=false by rw[hf];simp),ih]
    constructor
    ·intro g x hx hcx;rcases List.mem_cons.1 hx with rfl | hx
     ·exact⟨z,hz,hf⟩
     ·exact g x hx hcx
    ·exact fun g x hx=>g x (by simp[hx])
   ·rw[if_pos (show Aae T ⟨lo,[(3,h.cl)]⟩ z=false by simpa using hf)]
    constructor
    ·intro g;omega
    ·intro g;obtain⟨z',e,e2⟩:=g h (by simp) hc;rw[hz]at e;cases e;exact absurd e2 hf
theorem Sx {T:List Int}{mp:Int→Option Zx}{H:Int}{R:Option Zx}{op n nxt len:Int}:Ade T mp H R op n nxt len=0 ↔
  H=0∧∃ y,R=some y∧(Aan op=true→∃ z,mp n=some z∧Aae T y z=true)∧(Aa4 op=true→nxt<len∧∀ z,mp nxt=some z→Aae T y z=true):=by
 unfold Ade;by_cases h1:H=0
 ·rw[if_neg (fun g=>g h1)];cases R with
  | none=>simp
  | some y =>
   rw[if_neg (show ¬ (some y).isSome=false by simp),show Aap (some y)=y from rfl]
   constructor
   ·intro h;refine⟨h1,y,rfl,?_,?_⟩
    ·intro hj;by_cases h2:(mp n).isSome=false
     ·rw[if_pos ⟨hj,h2⟩]at h;omega
     rw[if_neg (fun g=>h2 g.2)]at h;cases hz:mp n with
     | none=>rw[hz]at h2;simp at h2
     | some z =>
      rw[hz,show Aap (some z)=z from rfl]at h;by_cases h3:Aae T y z=false
      ·rw[if_pos ⟨hj,h3⟩]at h;omega
      ·exact⟨z,rfl,by simpa using h3⟩
    ·intro hg
     split at h
     ·omega
     split at h
     ·omega
     rw[if_neg (by rw[hg];simp)]at h
     split at h
     ·omega
     ·next hl =>
      refine⟨by omega,fun z hz=>?_⟩;rw[hz,show Aap (some z)=z from rfl]at h;by_cases h3:Aae T y z=false
      ·rw[if_pos ⟨rfl,h3⟩]at h;omega
      ·simpa using h3
   ·rintro ⟨-,y',e,hj,hg⟩;cases e;rw[if_neg (by
     rintro ⟨a,b⟩;obtain⟨z,hz,_⟩:=hj a;rw[hz]at b;simp at b),if_neg (by
     rintro ⟨a,b⟩;obtain⟨z,hz,hf⟩:=hj a;rw[hz,show Aap (some z)=z from rfl,hf]at b;cases b)]
    by_cases hgo:Aa4 op=true
    ·obtain⟨hl,hz⟩:=hg hgo;rw[if_neg (by rw[hgo];simp),if_neg (by omega),if_neg (by
      rintro ⟨a,b⟩;obtain⟨z,e⟩:=Option.isSome_iff_exists.1 a;rw[e,show Aap (some z)=z from rfl,hz z e]at b;cases b)]
    ·rw[if_pos (by simpa using hgo)]
 ·rw[if_pos h1]
  constructor
  ·intro h;exact absurd h h1
  ·intro h;exact absurd h.1 h1
theorem Fn {ah:Nat→Option Zx}{lk:Nat→Zx→Int}:∀ {l:List Nat},(Acs ah lk l).1=0↔∀ p∈l,∀ x,ah p=some x→lk p x=0
 | []=>by simp[Acs]
 | p::r=>by
  have ih:=Fn (ah:=ah) (lk:=lk) (l:=r);unfold Acs;cases hp:ah p with
  | none =>
   simp only;rw[ih]
   constructor
   ·intro g q hq x hx;rcases List.mem_cons.1 hq with rfl | hq
    ·rw[hp]at hx;cases hx
    ·exact g q hq x hx
   ·exact fun g q hq=>g q (by simp[hq])
  | some x =>
   simp only;by_cases h:lk p x=0
   ·rw[if_neg (fun g=>g h),ih]
    constructor
    ·intro g q hq y hy;rcases List.mem_cons.1 hq with rfl | hq
     ·rw[hp]at hy;cases hy;exact h
     ·exact g q hq y hy
    ·exact fun g q hq=>g q (by simp[hq])
   ·rw[if_pos h]
    constructor
    ·intro g;exact absurd g h
    ·intro g;exact absurd (g p (by simp) x hp) h
theorem Eu {cs:List Rd.Cls}{ms:List Rd.Mth}{m:Rd.Mth}{d r:List Nat}{q:Nat} (h:Cd.places m.code=d++q::r) :
  Ab8 cs ms m q=(Aa2 m (q:Int)).or (d.foldl (fun o p=>Acz (fun p=>Aa2 m (p:Int)) (Abc cs ms m) (fun p=>Aa4 (m.code.getD p 0)) p o) (some (Aa9 m))):=by
 have hl:=Lc m.code;unfold Ab8;rw[h]at hl ⊢;exact H9 _ _ _ q r d _ (fun p hp=>(List.pairwise_append.1 hl).2.2 p hp q (by simp))
theorem Ow {cs:List Rd.Cls}{ms:List Rd.Mth}{m:Rd.Mth} (hc:0<m.code.length):Ab8 cs ms m 0=(Aa2 m 0).or (some (Aa9 m)):=by
 obtain⟨r,hr⟩:∃ r,Cd.places m.code=[]++0::r:=by
  unfold Cd.places;cases hn:m.code.length with
  | zero=>omega
  | succ n =>
   unfold Cd.starts;rw[if_pos hc];exact⟨_,rfl⟩
 rw[Eu hr];rfl
theorem Po {cs:List Rd.Cls}{ms:List Rd.Mth}{m:Rd.Mth}{p:Nat} (hp:p∈Cd.places m.code) (hl:p+Cd.wd (m.code.getD p 0)<m.code.length) :
  Ab8 cs ms m (p+Cd.wd (m.code.getD p 0))=(Aa2 m ((p+Cd.wd (m.code.getD p 0):Nat):Int)).or ((Ab8 cs ms m p).bind fun x=>(Abc cs ms m p x).bind fun z=>if Aa4 (m.code.getD p 0)=true then some z else none):=by
 obtain⟨d,r,h⟩:=List.append_of_mem hp;obtain⟨r',rfl⟩:=M6 h hl;rw[Eu (d:=d++[p]) (r:=r') (by rw[h];simp),Eu h,List.foldl_append];rfl
def Ae1 (cs:List Rd.Cls) (ms:List Rd.Mth) (m:Rd.Mth) (q:Nat):Option Zx:=if q∈Cd.places m.code then Ab8 cs ms m q else none
theorem Fb {cs:List Rd.Cls}{ms:List Rd.Mth}{m:Rd.Mth}{q:Nat} (h:q∈Cd.places m.code):Ae1 cs ms m q=Ab8 cs ms m q:=if_pos h
theorem Ea {cs:List Rd.Cls}{ms:List Rd.Mth}{m:Rd.Mth}{q:Nat} (h:q∈Cd.places m.code) {z:Zx} (hz:Aa2 m (q:Int)=some z):Ab8 cs ms m q=some z:=by
 obtain⟨d,r,h⟩:=List.append_of_mem h;rw[Eu h,hz];rfl
theorem Wm {cs:List Rd.Cls}{ms:List Rd.Mth} (k:Ace cs ms) {m:Rd.Mth} (hm:m∈ms) {q:Nat} (hq:q∈Cd.places m.code) {x:Zx} (h:Ab8 cs ms m q=some x):Acd (Tr.tree cs) m x:=by
 have g:=k.mt m hm;obtain⟨d,r,hs⟩:=List.append_of_mem hq;rw[Eu hs]at h;have key:∀ (d:List Nat) (o:Option Zx),(∀ p∈d,p∈Cd.places m.code)→(∀ y,o=some y→Acd (Tr.tree cs) m y)→∀ y,d.foldl (fun o p=>Acz (fun p=>Aa2 m (p:Int)) (Abc cs ms m) (fun p=>Aa4 (m.code.getD p 0)) p o) o=some y→Acd (Tr.tree cs) m y:=by
  intro d
  induction d with
  | nil=>intro o _ ho y hy;exact ho y hy
  | cons p d ih =>
   intro o hd ho y hy;refine ih _ (fun p hp=>hd p (by simp[hp])) (fun z hz=>?_) y hy;unfold Acz at hz;simp only at hz;cases e:(Aa2 m (p:Int)).or o with
   | none=>rw[e]at hz;cases hz
   | some u =>
    rw[e]at hz;simp only[Option.bind_some]at hz;have hu:Acd (Tr.tree cs) m u:=by
     cases e2:Aa2 m (p:Int) with
     | none=>rw[e2]at e;exact ho u e
     | some v=>rw[e2]at e;cases e;exact Ep g e2
    cases e3:Abc cs ms m p u with
    | none=>rw[e3]at hz;cases hz
    | some v =>
     rw[e3]at hz;simp only[Option.bind_some]at hz
     split at hz
     ·cases hz;exact Gm k hm (hd p (by simp)) hu e3
     ·cases hz
 cases e2:Aa2 m (q:Int) with
 | none =>
  rw[e2]at h;exact key d _ (fun p hp=>by rw[hs];simp[hp]) (fun y hy=>by cases hy;exact Gs g) x h
 | some v=>rw[e2]at h;cases h;exact Ep g e2
theorem N3 {cs:List Rd.Cls}{ms:List Rd.Mth}{m:Rd.Mth}:(Acm cs ms m).1=0↔(∀ z,Aa2 m 0=some z→Aae (Tr.tree cs) (Aa9 m) z=true)∧∀ p∈Cd.places m.code,∀ x,Ab8 cs ms m p=some x→Aeb cs ms m p x=0:=by
 unfold Acm Aei;cases hz:Aa2 m 0 with
 | none =>
  rw[if_neg (by simp),Fn]
  simp
 | some z =>
  rw[show Aap (some z)=z from rfl];by_cases hf:Aae (Tr.tree cs) (Aa9 m) z=true
  ·rw[if_neg (fun g=>by rw[hf]at g;cases g.2),Fn]
   constructor
   ·intro h;exact⟨fun z' e=>by cases e;exact hf,h⟩
   ·intro h;exact h.2
  ·rw[if_pos ⟨rfl,by simpa using hf⟩]
   constructor
   ·intro h;simp at h
   ·intro h;exact absurd (h.1 z rfl) hf
theorem Pq {cs:List Rd.Cls}{ms:List Rd.Mth} (k:Ace cs ms) {m:Rd.Mth} (hm:m∈ms) (hc:0<m.code.length) (h:(Acm cs ms m).1=0) :
  Aef (Aaz cs ms m) (Ae1 cs ms m)∧∀ p∈Cd.places m.code,Ae1 cs ms m p≠none→∀ q,Afc (Aaz cs ms m) p q→∃ z,Aa2 m (q:Int)=some z∧Ae1 cs ms m q=some z:=by
 have g:=k.mt m hm;have gE:=Ek k hm hc;have hT:Tr.Ok (Tr.tree cs):=k.ok;obtain⟨h0,h1⟩:=N3.1 h;have fit:∀ {x y:Zx},Acd (Tr.tree cs) m x→Acd (Tr.tree cs) m y→Aae (Tr.tree cs) x y=true→Aay (Tr.tree cs) x y:=fun hx hy hf=>Jl.1 (by rw[← Fw hT (Gg hx) (Gg hy)];exact hf);have lk:∀ p∈Cd.places m.code,∀ x,Ab8 cs ms m p=some x→_:=fun p hp x hx=>Sx.1 (show Ade _ _ _ _ _ _ _ _=0 from h1 p hp x hx);have inv:∀ p x,Ae1 cs ms m p=some x→Acd (Tr.tree cs) m x:=by
  intro p x hx;unfold Ae1 at hx;by_cases hp:p∈Cd.places m.code
  ·rw[if_pos hp]at hx;exact Wm k hm hp hx
  ·rw[if_neg hp]at hx;cases hx
 have hI:∀ {h':Rd.Hnd}{x:Zx}{z:Zx},h'∈m.handlers→Acd (Tr.tree cs) m x→Acd (Tr.tree cs) m z→Aae (Tr.tree cs) ⟨x.locals,[(3,h'.cl)]⟩ z=true→Aay (Tr.tree cs) (Abo x h') z:=by
  intro h' x z hh hx hz hf;refine Jl.1 ?_;rw[← Fw hT ?_ (Gg hz)]
  ·exact hf
  ·refine⟨fun t ht=>(hx.tl t ht).1,fun t ht=>?_⟩;have:t=(3,h'.cl):=by simpa[Abo] using ht
   rw[this];exact(gE.hnd h' hh).2.2.2
 refine⟨⟨inv,?_,?_⟩,?_⟩
 ·have hz:=I8 hc;rw[Fb hz,Ow hc];cases e:Aa2 m 0 with
  | none=>exact⟨_,rfl,.refl _ _⟩
  | some z=>exact⟨z,rfl,fit (Gs g) (Ep g e) (h0 z e)⟩
 ·intro p hp x hx;have hp':p∈Cd.places m.code:=hp;have hP:=inv p x hx;rw[Fb hp']at hx;obtain⟨a1,y,a2,a3,a4⟩:=lk p hp' x hx;have hy:=Gm k hm hp' hP a2;refine⟨⟨y,a2⟩,?_⟩;intro q u b hg;cases hg using Acx.el with
  | hnd h' hh hcov =>
   obtain⟨z,e1,e2⟩:=Fe.1 a1 h' hh hcov;have gh:=gE.hnd h' hh;have eq:((h'.target.toNat:Nat):Int)=h'.target:=by omega
   have hz:=Ep g e1;have hl:=hI hh hP hz e2;refine⟨gh.1,gh.2.1,?_,⟨z,?_,hl⟩,fun _=>trivial⟩
   ·have:=hl.st.len;have:=hz.hi;show ((Abo x h').stack.length:Int)≤m.stack;omega
   ·rw[Fb gh.2.2.1];exact Ea gh.2.2.1 (by rw[eq];exact e1)
  | jmp u hu hj =>
   have:u=y:=by have:=hu.symm.trans a2;cases this;rfl
   subst this;obtain⟨z,e1,e2⟩:=a3 hj;have gt:=gE.tgt p hp hj;have eq:((((Aaz cs ms m).ar p).toNat:Nat):Int)=(Aaz cs ms m).ar p:=by omega
   have hz:=Ep g e1;refine⟨gt.1,gt.2.1,hy.hi,⟨z,?_,fit hy hz e2⟩,fun _=>trivial⟩;rw[Fb gt.2.2];exact Ea gt.2.2 (by rw[eq];exact e1)
  | nxt u hu hgo =>
   have:u=y:=by have:=hu.symm.trans a2;cases this;rfl
   subst this;obtain⟨e1,e2⟩:=a4 hgo;have hn:p+Cd.wd (m.code.getD p 0)<m.code.length:=by omega
   have eq:((Aaz cs ms m).nx p).toNat=p+Cd.wd (m.code.getD p 0):=by
    show ((p:Int)+(Cd.wd (m.code.getD p 0):Int)).toNat=_;omega
   have hpn:=Je hp' hn;have hen:(Aaz cs ms m).nx p=((p+Cd.wd (m.code.getD p 0):Nat):Int):=by
    show (p:Int)+(Cd.wd (m.code.getD p 0):Int)=_;omega
   have hgo':Aa4 (m.code.getD p 0)=true:=hgo;refine⟨by rw[hen];omega,by rw[hen];exact e1,hy.hi,?_,fun h=>(by cases h)⟩;rw[eq,Fb hpn,Po hp' hn,hx];simp only[Option.bind_some];have a2':Abc cs ms m p x=some u:=a2;rw[a2',Option.bind_some,if_pos hgo'];cases e:Aa2 m ((p+Cd.wd (m.code.getD p 0):Nat):Int) with
   | none=>exact⟨u,rfl,.refl _ _⟩
   | some z=>exact⟨z,rfl,fit hy (Ep g e) (e2 z e)⟩
 ·intro p hp hne q ha;cases hx:Ae1 cs ms m p with
  | none=>exact absurd hx hne
  | some x =>
   rw[Fb hp]at hx;obtain⟨a1,y,a2,a3,a4⟩:=lk p hp x hx;rcases ha with ⟨h',hh,hcov,rfl⟩ | ⟨hj,rfl⟩
   ·obtain⟨z,e1,e2⟩:=Fe.1 a1 h' hh hcov;have gh:=gE.hnd h' hh;have eq:((h'.target.toNat:Nat):Int)=h'.target:=by omega
    refine⟨z,by rw[eq];exact e1,?_⟩;rw[Fb gh.2.2.1];exact Ea gh.2.2.1 (by rw[eq];exact e1)
   ·obtain⟨z,e1,e2⟩:=a3 hj;have gt:=gE.tgt p hp hj;have eq:((((Aaz cs ms m).ar p).toNat:Nat):Int)=(Aaz cs ms m).ar p:=by omega
    refine⟨z,by rw[eq];exact e1,?_⟩;rw[Fb gt.2.2];exact Ea gt.2.2 (by rw[eq];exact e1)
theorem Mx (T:List Int) (ms:List Rd.Mth) (k:Nat) (m:Rd.Mth):Adj T (ms.map Rd.Mth.bare) k m.bare=Adj T ms k m:=by
 have e1:Ac7 T m.bare=Ac7 T m:=rfl;have e2:Ac1 ((ms.map Rd.Mth.bare).take k) m.bare=Ac1 (ms.take k) m:=by
  unfold Ac1;rw[← List.map_take,List.any_map];rfl
 have e3:Ab7 T (ms.map Rd.Mth.bare) m.bare=Ab7 T ms m:=by
  unfold Ab7;rw[List.any_map];rfl
 unfold Adj;rw[e1,e2,e3]
theorem Hc (T:List Int) (ms:List Rd.Mth):∀ (l:List Rd.Mth) (k:Nat),Abd T (ms.map Rd.Mth.bare) k (l.map Rd.Mth.bare)=Abd T ms k l
 | [],_=>rfl
 | m::r,k=>by
  rw[List.map_cons,Abd,Abd,Mx,Hc T ms r (k+1)]
theorem Fq (T:List Int) (nf:Int) (ow:List Int):∀ (l:List Rd.Mth) (k:Nat),(Abf T nf ow k l).1=0↔∀ m∈l,(Aci T nf ow m).1=0
 | [],_=>by simp[Abf]
 | m::r,k=>by
  have ih:=Fq T nf ow r (k+1);unfold Abf;by_cases h:(Aci T nf ow m).1=0
  ·rw[if_neg (fun g=>g h),ih];simp[h]
  ·rw[if_pos h]
   constructor
   ·intro g;exact absurd g h
   ·intro g;exact absurd (g m (by simp)) h
theorem Hy (T:List Int) (nf:Int) (ow:List Int) (m:Rd.Mth):(Aci T nf ow m).1=0↔(Aci T nf ow m.bare).1=0∧Cd.mapsBad T m.code 0 (-1) m.maps<0:=by
 have e:Cd.inMaps T (Cd.insts m.code) 0 0 m.maps=Cd.mapsBad T m.code 0 (-1) m.maps:=Cd.inMaps_eq T m.code m.maps 0 0;have e0:Cd.inMaps T (Cd.insts m.code) 0 0 ([]:List Rd.Mp) = -1:=by rw[Cd.inMaps_eq];rfl
 unfold Aci Rd.Mth.bare;simp only;rw[e,e0];unfold Cd.faultOf;by_cases h1:0≤Cd.unread m.code
 ·rw[if_pos h1,if_pos h1];simp
 rw[if_neg h1,if_neg h1]
 split
 ·simp
 ·split
  ·simp
  ·simp only[show ((-1:Int)<0) by omega,if_true,true_and]
   split
   ·next h=>simp[h]
   ·next h=>simp[h]
theorem Vx {ms r:List Rd.Mth} (h:r.map Rd.Mth.bare=ms.map Rd.Mth.bare):r.map Rd.Mth.cl=ms.map Rd.Mth.cl:=by
 have:=congrArg (List.map Rd.Mth.cl) h
 simpa[List.map_map,Function.comp_def,Rd.Mth.bare] using this
theorem Nl {ms r:List Rd.Mth} (h:r.map Rd.Mth.bare=ms.map Rd.Mth.bare) {m:Rd.Mth} (hm:m∈r):∃ m0∈ms,m0.bare=m.bare:=by
 have:m.bare∈ms.map Rd.Mth.bare:=by rw[← h];exact List.mem_map.2 ⟨m,hm,rfl⟩
 exact List.mem_map.1 this
theorem Sj {cs:List Rd.Cls}{ms r:List Rd.Mth} (hb:r.map Rd.Mth.bare=ms.map Rd.Mth.bare) (h:(Ack ⟨cs,ms⟩).1=0) (hm:∀ m∈r,Cd.mapsBad (Tr.tree cs) m.code 0 (-1) m.maps<0):(Ack ⟨cs,r⟩).1=0:=by
 unfold Ack at h ⊢;simp only at h ⊢;by_cases h1:(Tr.inCl (Tr.tree cs) 0 cs).1≠0
 ·rw[if_pos h1]at h;exact absurd h h1
 rw[if_neg h1]at h ⊢;unfold Ad3 at h ⊢;have eh:Abd (Tr.tree cs) r 0 r=Abd (Tr.tree cs) ms 0 ms:=by rw[← Hc _ r,hb,Hc]
 rw[eh,Vx hb];by_cases h2:0≤Abd (Tr.tree cs) ms 0 ms
 ·rw[if_pos h2]at h;simp at h
 rw[if_neg h2]at h ⊢;rw[Fq]at h ⊢;intro m hmr;obtain⟨m0,h3,h4⟩:=Nl hb hmr;rw[Hy,← h4];exact⟨((Hy _ _ _ _).1 (h m0 h3)).1,hm m hmr⟩
theorem MthB.remap {m m0:Rd.Mth} (h:MthB m0) (e:m0.bare=m.bare) (h6:m.maps.length≤64) (hm:∀ q∈m.maps,MpB m.locals m.stack q):MthB m:=by
 obtain⟨cl,nm,ps,rs,lo,st,cd,hs,mp⟩:=m;obtain⟨cl',nm',ps',rs',lo',st',cd',hs',mp'⟩:=m0;simp only[Rd.Mth.bare,Rd.Mth.mk.injEq,and_true]at e;obtain⟨rfl,rfl,rfl,rfl,rfl,rfl,rfl,rfl⟩:=e;exact⟨h.cl,h.nm,h.pl,h.ps,h.rs,h.lo,h.st,h.c1,h.c2,h.cb,h.h4,h.hb,h6,hm⟩
theorem FilB.remap {cs:List Rd.Cls}{ms r:List Rd.Mth} (h:FilB ⟨cs,ms⟩) (hb:r.map Rd.Mth.bare=ms.map Rd.Mth.bare) (hm:∀ m∈r,m.maps.length≤64∧∀ q∈m.maps,MpB m.locals m.stack q):FilB ⟨cs,r⟩:=by
 have hl:r.length=ms.length:=by simpa using congrArg List.length hb
 have h1:=h.m1;have h6:=h.m6;simp only at h1 h6;refine⟨h.c6,h.cb,by simp only;omega,by simp only;omega,fun m hmr=>?_⟩;obtain⟨m0,h3,h4⟩:=Nl hb hmr;exact(h.mb m0 h3).remap h4 (hm m hmr).1 (hm m hmr).2
theorem Ll {f:Rd.Fil} (hf:FilB f):(Aau f).length≤15000:=by
 obtain⟨cs,ms⟩:=f;have h6:=hf.c6;have m6:=hf.m6;simp only at h6 m6;unfold Aau Abv;simp only[List.length_append,List.length_cons,List.length_nil];have h1:=Dj Aat 10 cs (fun x hx=>by have:=(hf.cb x hx).fl;simp only[Aat,List.length_cons,Bb];omega);have h2:=Dj Aad 2330 ms (fun m hm=>by
  have b:=hf.mb m hm;have g1:=b.pl;have g2:=b.c2;have g3:=b.h4;have g4:=b.lo;have g5:=b.st;have g6:=b.m6;have h3:=Dj Aao 34 m.maps (fun q hq=>by
   have l1:=(b.mb q hq).lo;have l2:=(b.mb q hq).hi;simp only[Aao,List.length_cons,List.length_append,Bb];omega)
  have h4:=Dj Abu 4 m.handlers (fun q _=>by simp[Abu]);simp only[Aad,Abi,Abj,Ab5,List.length_append,List.length_cons,List.length_nil,Bb,Aav,List.length_map];omega)
 omega
theorem Ob {s:List UInt8} (h:(Rf.formed s).1=0) {r:List Rd.Mth} (hb:r.map Rd.Mth.bare=(Rd.read s).1.methods.map Rd.Mth.bare) (hm:∀ m∈r,m.maps.length≤64∧(∀ q∈m.maps,MpB m.locals m.stack q)∧Cd.mapsBad (Tr.tree (Rd.read s).1.classes) m.code 0 (-1) m.maps<0) :
  Rd.read (Aau ⟨(Rd.read s).1.classes,r⟩)=(⟨(Rd.read s).1.classes,r⟩,0)∧(Rf.formed (Aau ⟨(Rd.read s).1.classes,r⟩)).1=0:=by
 have hB:=M3 s (Ch h);have hB2:FilB ⟨(Rd.read s).1.classes,r⟩:=FilB.remap (ms:=(Rd.read s).1.methods) hB hb (fun m hmr=>⟨(hm m hmr).1,(hm m hmr).2.1⟩);have e:=Px hB2 (Ll hB2);refine⟨e,?_⟩;rw[← Bu]at h ⊢;unfold Aa7 at h ⊢;rw[e];rw[if_neg (by simp)];by_cases h0:(Rd.read s).2≠0
 ·rw[if_pos h0]at h;exact absurd h h0
 rw[if_neg h0]at h;exact Sj (ms:=(Rd.read s).1.methods) hb h (fun m hmr=>(hm m hmr).2.2)
theorem Nr (ms:List Rd.Mth) (n:Nat):(ms.map Rd.Mth.bare).getD n ⟨0,0,[],(0,0),0,0,[],[],[]⟩=(ms.getD n ⟨0,0,[],(0,0),0,0,[],[],[]⟩).bare:=by
 simp only[List.getD_eq_getElem?_getD,List.getElem?_map];cases ms[n]? <;> rfl
theorem Rw (F:List Rf.Fld) (ms:List Rd.Mth) (res:Int × Int) (op n:Int):Acb F (ms.map Rd.Mth.bare) res op n=Acb F ms res op n:=by
 unfold Acb;rw[Nr];rfl
theorem Pj (F:List Rf.Fld) (ms:List Rd.Mth) (op n:Int):Abw F (ms.map Rd.Mth.bare) op n=Abw F ms op n:=by
 unfold Abw;rw[Nr];rfl
theorem Lg (cs:List Rd.Cls) (ms:List Rd.Mth) (m:Rd.Mth):Abc cs (ms.map Rd.Mth.bare) m.bare=Abc cs ms m:=by
 funext p x
 unfold Abc;rw[Gn,Gn,Rw,Pj];rfl
theorem Vw {cs:List Rd.Cls}{ms r:List Rd.Mth} (hb:r.map Rd.Mth.bare=ms.map Rd.Mth.bare) {m m0:Rd.Mth} (h:m0.bare=m.bare):Aaz cs r m=Aaz cs ms m0:=by
 have e:Abc cs r m=Abc cs ms m0:=by rw[← Lg cs r,← Lg cs ms,hb,h]
 unfold Aaz;rw[e];obtain⟨cl,nm,ps,rs,lo,st,cd,hs,mp⟩:=m;obtain⟨cl',nm',ps',rs',lo',st',cd',hs',mp'⟩:=m0;simp only[Rd.Mth.bare,Rd.Mth.mk.injEq,and_true]at h;obtain⟨rfl,rfl,rfl,rfl,rfl,rfl,rfl,rfl⟩:=h;rfl
theorem Uo {T c:List Int}{t:Int × Int} (h:Aab T (Ad0 c) t):Cd.framed T c t.1 t.2=true:=by
 obtain⟨h,h4⟩:=h;unfold Cd.framed;rcases h with ⟨a,b⟩|⟨a,b⟩|⟨a,b⟩|⟨a,b⟩|⟨a,b⟩
 ·rw[if_pos (.inl a),b];rfl
 ·rw[if_pos (.inr (.inl a)),b];rfl
 ·rw[if_pos (.inr (.inr a)),b];rfl
 ·rw[if_neg (by omega),if_pos a];exact Dv.2 b
 ·rw[if_neg (by omega),if_neg (by omega),if_pos a];obtain⟨h1,h2⟩:=h4 a;rw[h1,h2];rfl
theorem T6 {T c:List Int} (hT:T.length≤255) (hc:c.length≤255) {t:Int × Int} (h:Aab T (Ad0 c) t):TyB t:=by
 obtain⟨h,h4⟩:=h;rcases h with ⟨a,b⟩|⟨a,b⟩|⟨a,b⟩|⟨a,b⟩|⟨a,b⟩
 ·exact⟨⟨by omega,by omega⟩,⟨by omega,by omega⟩⟩
 ·exact⟨⟨by omega,by omega⟩,⟨by omega,by omega⟩⟩
 ·exact⟨⟨by omega,by omega⟩,⟨by omega,by omega⟩⟩
 ·exact⟨⟨by omega,by omega⟩,⟨by omega,by omega⟩⟩
 ·have:=El (h4 a).1;exact⟨⟨by omega,by omega⟩,⟨by omega,by omega⟩⟩
theorem My {T c:List Int}{l:List (Int × Int)} (h:∀ t∈l,Aab T (Ad0 c) t):Cd.frAll T c l=true:=by
 unfold Cd.frAll;rw[List.all_eq_true];exact fun t ht=>Uo (h t ht)
theorem Hh {T c:List Int}:∀ (l:List Ac3) (k i:Nat) (last:Int),last<(k:Int)→(∀ j p,l[j]?=some p→p.wa=true→Cd.begB c ((k+j:Nat):Int)=true∧Cd.frAll T c p.fr.locals=true∧Cd.frAll T c p.fr.stack=true)→Cd.mapsBad T c i last (Aai k l)<0
 | [],_,_,_,_,_=>by simp[Aai,Cd.mapsBad]
 | p::r,k,i,last,hl,h=>by
  have hr:∀ j p',r[j]?=some p'→p'.wa=true→Cd.begB c ((k+1+j:Nat):Int)=true∧Cd.frAll T c p'.fr.locals=true∧Cd.frAll T c p'.fr.stack=true:=fun j p' h1 h2=>by
   have:=h (j+1) p' (by simpa using h1) h2
   rwa [show k+(j+1)=k+1+j by omega]at this
  unfold Aai;by_cases hw:p.wa=true
  ·obtain⟨h1,h2,h3⟩:=h 0 p rfl hw;rw[if_pos hw,Cd.mapsBad];simp only;rw[if_neg (by rw[show ((k:Nat):Int)=((k+0:Nat):Int) by omega,h1];simp),if_neg (by omega),if_neg (by rw[h2];simp),if_neg (by rw[h3];simp)];exact Hh r (k+1) (i+1) _ (by omega) hr
  ·rw[if_neg hw];exact Hh r (k+1) i last (by omega) hr
theorem Jz:∀ (l:List Ac3) (k:Nat),(∀ q∈Aai k l,(k:Int)≤q.place)∧(Aai k l).Pairwise (fun a b=>a.place<b.place)
 | [],_=>by simp[Aai]
 | p::r,k=>by
  obtain⟨h1,h2⟩:=Jz r (k+1);unfold Aai;by_cases hw:p.wa=true
  ·rw[if_pos hw];refine⟨fun q hq=>?_,List.pairwise_cons.2 ⟨fun q hq=>?_,h2⟩⟩
   ·rcases List.mem_cons.1 hq with rfl|hq
    ·exact Int.le_refl _
    ·have:=h1 q hq;omega
   ·have:=h1 q hq;show (k:Int)<q.place;omega
  ·rw[if_neg hw];exact⟨fun q hq=>by have:=h1 q hq;omega,h2⟩
theorem Lz {α:Type} [BEq α] [LawfulBEq α]:∀ (l r:List α),l.Nodup→(∀ x∈l,x∈r)→l.length≤r.length
 | [],_,_,_=>Nat.zero_le _
 | x::l,r,hn,h=>by
  have hx:=h x (by simp);obtain⟨h1,h2⟩:=List.nodup_cons.1 hn;have:=Lz l (r.erase x) h2 (fun y hy=>(List.mem_erase_of_ne (fun e=>h1 (by rw[← e];exact hy))).2 (h y (by simp[hy])));have e:=List.length_erase_of_mem hx;have:0<r.length:=List.length_pos_of_mem hx;simp only[List.length_cons];omega
theorem Mh (c:List Int):∀ (k p:Nat),(∀ q∈Cd.starts c k p,q+Cd.wd (c.getD q 0)≤c.length)→p≤c.length→2*((Cd.starts c k p).filter (fun q=>Aan (c.getD q 0))).length+p≤c.length
 | 0,p,_,hp=>by simp[Cd.starts];exact hp
 | k+1,p,h,hp=>by
  unfold Cd.starts at h ⊢;by_cases hl:p<c.length
  ·rw[if_pos hl]at h ⊢;have hw:=h p (by simp);have hb:=Cd.wd_bd (c.getD p 0);have ih:=Mh c k (p+Cd.wd (c.getD p 0)) (fun q hq=>h q (List.mem_cons_of_mem _ hq)) hw;rw[List.filter_cons];by_cases hj:Aan (c.getD p 0)=true
   ·have h2:Cd.wd (c.getD p 0)=2:=by
     generalize c.getD p 0=op at *;unfold Aan at hj;have hop:op=11∨op=12∨op=13∨op=14:=by simpa using hj
     unfold Cd.wd;rw[if_pos (by omega)]
    rw[if_pos hj,List.length_cons];omega
   ·rw[if_neg hj];omega
  ·rw[if_neg hl]
   simpa using hp
theorem Lr {cs:List Rd.Cls}{ms:List Rd.Mth} (k:Ace cs ms) {m:Rd.Mth} (hm:m∈ms) (hc:0<m.code.length) {mp:List Rd.Mp} (h:Aax cs ms m=some mp) :
  mp.length≤64∧(∀ q∈mp,MpB m.locals m.stack q)∧Cd.mapsBad (Tr.tree cs) m.code 0 (-1) mp<0:=by
 have g:=k.mt m hm;have gE:=Ek k hm hc;obtain⟨hL,hA⟩:=Ed k hm;obtain⟨f1,f2⟩:=Iw k hm hc h;obtain⟨s1,s2,s3,_⟩:=Fh gE hL hA;have hTl:=Bm cs;have hl6:=k.l6;have h120:=g.bd.code;have hlo:=g.rd.lo;unfold Aax at h;by_cases hh:(Aak cs ms m).hop=true
 ·rw[if_pos hh]at h;cases h
 rw[if_neg hh]at h;cases h;have hh':(Aak cs ms m).hop=false:=by simpa using hh
 obtain⟨sol,inps,aim⟩:=s3 hh';have want:∀ q,((Aak cs ms m).at q).wa=true→((Aak cs ms m).at q).st=true∧Acd (Tr.tree cs) m ((Aak cs ms m).at q).fr:=fun q hq=>Fc gE hL hA hh' hq;have at_eq:∀ (j:Nat) p,(Aak cs ms m).sp[j]?=some p→(Aak cs ms m).at j=p:=fun j p hj=>by unfold Z4.at;rw[List.getD_eq_getElem?_getD,hj];rfl
 refine⟨?_,fun q hq=>?_,?_⟩
 ·have hn:((Aai 0 (Aak cs ms m).sp).map Rd.Mp.place).Nodup:=by
   have:=(Jz (Aak cs ms m).sp 0).2;refine List.pairwise_map.2 (this.imp ?_);intro a b hab e;omega
  have hsub:∀ x∈(Aai 0 (Aak cs ms m).sp).map Rd.Mp.place,x∈m.handlers.map Rd.Hnd.target++((Cd.places m.code).filter (fun q=>Aan (m.code.getD q 0))).map (fun p:Nat=>Cd.atI m.code ((p:Int)+1)):=by
   intro x hx;obtain⟨q,hq,rfl⟩:=List.mem_map.1 hx;obtain⟨i,p,e1,e2,rfl⟩:=Dz _ _ _ hq;have e3:=at_eq i p e1;obtain⟨p',hp',hF,ha⟩:=(aim i).1 (by show ((Aak cs ms m).at i).wa=true;rw[e3];exact e2);simp only[Nat.zero_add];rcases ha with ⟨h',hh2,hcov,et⟩ | ⟨hj,et⟩
   ·refine List.mem_append.2 (.inl (List.mem_map.2 ⟨h',hh2,?_⟩));have:=(gE.hnd h' hh2).1;omega
   ·refine List.mem_append.2 (.inr (List.mem_map.2 ⟨p',List.mem_filter.2 ⟨hp',hj⟩,?_⟩));have h0:0≤Cd.atI m.code ((p':Int)+1):=(gE.tgt p' hp' hj).1;have et':(Cd.atI m.code ((p':Int)+1)).toNat=i:=et;omega
  have hle:=Lz _ _ hn hsub;have hf:=Mh m.code m.code.length 0 (fun q hq=>(Cp g.unread q hq).2) (Nat.zero_le _);have h4:=g.bd.hs;change 2*((Cd.places m.code).filter (fun q=>Aan (m.code.getD q 0))).length+0≤m.code.length at hf;simp only[List.length_append,List.length_map]at hle;omega
 ·obtain⟨q0,q1,hP⟩:=f2 q hq;have l1:=hP.lo;have l2:=hP.hi;simp only at l1 l2;exact⟨⟨q0,by omega⟩,by omega,l2,fun t ht=>T6 (by omega) (by omega) (hP.tl t ht),fun t ht=>T6 (by omega) (by omega) (hP.ts t ht)⟩
 ·refine Hh _ 0 0 (-1) (by omega) (fun j p e1 e2=>?_);have e3:=at_eq j p e1;obtain⟨w1,w2⟩:=want j (by rw[e3];exact e2);rw[e3]at w1 w2;have hps:j∈Cd.places m.code:=inps j (by
   have:(Aak cs ms m).F j=some p.fr:=Cf.2 ⟨by rw[e3];exact w1,by rw[e3]⟩;show (Aak cs ms m).F j≠none;rw[this];simp)
  refine⟨?_,My w2.tl,My w2.ts⟩;rw[Nat.zero_add];unfold Cd.begB;rw[List.any_eq_true];exact⟨j,hps,by simp⟩
theorem Iv {FM:Rd.Mth→Option (List Rd.Mp)}:∀ (ms r:List Rd.Mth),Aar FM ms=some r→r.map Rd.Mth.bare=ms.map Rd.Mth.bare
 | [],r,h=>by cases h;rfl
 | m::ms,r,h=>by
  unfold Aar at h;cases hf:FM m with
  | none=>rw[hf]at h;cases h
  | some mp =>
   rw[hf]at h;simp only at h;cases hr:Aar FM ms with
   | none=>rw[hr]at h;cases h
   | some r' =>
    rw[hr]at h;cases h;simp only[List.map_cons,Iv ms r' hr];rfl
structure Alike (s p:List UInt8) (r:List Rd.Mth):Prop where
 s0:(Rf.formed s).1=0
 rd:Rd.read p=(⟨(Rd.read s).1.classes,r⟩,0)
 p0:(Rf.formed p).1=0
 eq:r.map Rd.Mth.bare=(Rd.read s).1.methods.map Rd.Mth.bare
theorem Fx {s:List UInt8} (h:(Rf.formed s).1=0) {r:List Rd.Mth} (hr:Aar (Aax (Rd.read s).1.classes (Rd.read s).1.methods) (Rd.read s).1.methods=some r):Alike s (Aau ⟨(Rd.read s).1.classes,r⟩) r:=by
 have e:=Iv _ _ hr;obtain⟨k,_,_⟩:=Cg _ h;have hcs:=Ev _ (Ch h);obtain⟨h1,h2⟩:=Ob h e (fun m hm=>by
  obtain⟨m0,h0,mp,hmp,rfl⟩:=(D7 _ _ hr).2 m hm;exact Lr k h0 (hcs m0 h0) hmp)
 exact⟨h,h1,h2,e⟩
theorem I9 {CR:Rd.Mth→Int × Int}:∀ (l:List Rd.Mth) (k:Nat),(Aca CR k l).1=0↔∀ m∈l,(CR m).1=0
 | [],_=>by simp[Aca]
 | m::r,k=>by
  unfold Aca;by_cases h:(CR m).1=0
  ·rw[if_neg (fun g=>g h),I9 r (k+1)];simp[h]
  ·rw[if_pos h]
   constructor
   ·intro g;exact absurd g h
   ·intro g;exact absurd (g m (by simp)) h
theorem Wj {s:List UInt8} (h:(Rf.formed s).1=0):(Adf s).1=0↔∀ m∈(Rd.read s).1.methods,(Acm (Rd.read s).1.classes (Rd.read s).1.methods m).1=0:=by
 unfold Adf Ael;rw[if_neg (fun g=>g h)];exact I9 _ _
theorem L9 {FM:Rd.Mth→Option (List Rd.Mp)}:∀ (ms r:List Rd.Mth),Aar FM ms=some r→∀ (i:Nat) (m':Rd.Mth),r[i]?=some m'→∃ m mp,ms[i]?=some m∧FM m=some mp∧m'=m.withMaps mp
 | [],r,h,i,m',hi=>by cases h;simp at hi
 | m::ms,r,h,i,m',hi=>by
  unfold Aar at h;cases hf:FM m with
  | none=>rw[hf]at h;cases h
  | some mp =>
   rw[hf]at h;simp only at h;cases hr:Aar FM ms with
   | none=>rw[hr]at h;cases h
   | some r' =>
    rw[hr]at h;cases h;cases i with
    | zero=>simp only[List.getElem?_cons_zero,Option.some.injEq]at hi;exact⟨m,mp,rfl,hf,hi.symm⟩
    | succ i=>exact L9 ms r' hr i m' (by simpa using hi)
def Aez:ByteArray:=⟨#[83,77,0,1,255,0,0,0,0,1,2,19,24,3,0,2,0,25,2,0,0,1,8,5,3,0,12,18,11,3,22,0,0]⟩
def Adr:ByteArray:=⟨#[83,77,0,1,255,0,0,0,0,1,2,19,24,3,0,2,0,25,2,0,0,1,8,5,3,0,12,18,11,3,22,0,2,3,1,0,0,18,1,0,0]⟩
theorem N4:(Rf.formed Adr.data.toList).1=0:=by decide +kernel
theorem Vk:(Adf Adr.data.toList).1=0:=by decide +kernel
theorem Vs:Abs Aez.data.toList=(Adr.data.toList,0,0):=by decide +kernel
theorem Ve:Rf.stripD Adr=Aez:=by
 rw[M7 _ N4];apply Tc
 decide +kernel
theorem Zo (b:ByteArray):(⟨b.data.toList.toArray⟩:ByteArray)=b:=by cases b;simp
theorem Ix {T c:List Int}:∀ (l:List Rd.Mp) (i:Nat) (last:Int),Cd.mapsBad T c i last l<0→l.Pairwise (fun a b=>a.place<b.place)∧∀ x∈l,last<x.place
 | [],_,_,_=>⟨List.Pairwise.nil,fun x hx=>by simp at hx⟩
 | m::r,i,last,h=>by
  rw[Cd.mapsBad]at h;by_cases h1:Cd.begB c m.place=false
  ·rw[if_pos h1]at h;omega
  rw[if_neg h1]at h;by_cases h2:m.place≤last
  ·rw[if_pos h2]at h;omega
  rw[if_neg h2]at h;by_cases h3:Cd.frAll T c m.locals=false
  ·rw[if_pos h3]at h;omega
  rw[if_neg h3]at h;by_cases h4:Cd.frAll T c m.stack=false
  ·rw[if_pos h4]at h;omega
  rw[if_neg h4]at h;obtain⟨a,b⟩:=Ix r (i+1) m.place h;refine⟨List.pairwise_cons.2 ⟨b,a⟩,fun x hx=>?_⟩;rcases List.mem_cons.1 hx with rfl | hx
  ·omega
  ·have:=b x hx;omega
theorem Pe {s:List UInt8} (h:(Rf.formed s).1=0):∀ m∈(Rd.read s).1.methods,Cd.mapsBad (Tr.tree (Rd.read s).1.classes) m.code 0 (-1) m.maps<0:=by
 rw[← Bu]at h;unfold Aa7 at h;by_cases h0:(Rd.read s).2≠0
 ·rw[if_pos h0]at h;exact absurd h h0
 rw[if_neg h0]at h;unfold Ack at h;by_cases h1:(Tr.inCl (Tr.tree (Rd.read s).1.classes) 0 (Rd.read s).1.classes).1≠0
 ·rw[if_pos h1]at h;exact absurd h h1
 rw[if_neg h1]at h;unfold Ad3 at h;by_cases h2:0≤Abd (Tr.tree (Rd.read s).1.classes) (Rd.read s).1.methods 0 (Rd.read s).1.methods
 ·rw[if_pos h2]at h;simp at h
 rw[if_neg h2,Fq]at h;exact fun m hm=>((Hy _ _ _ _).1 (h m hm)).2
end Go.Proofs.YtpcgnjolfahacaaGreat
