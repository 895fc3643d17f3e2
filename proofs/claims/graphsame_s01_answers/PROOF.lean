import PyProof.Rows.All
import Wide.All
import OpenK.AllK
import Wide.FinOn
import PyProof.EqAt
import PyProof.EqKinds
import PyProof.TupleCall
import KE.BitLaws
import Open.SpecLaws
import KE.OsHead
import KE.OsGo
import KE.SpHead
import PyProof.DictRoadsH
import PyProof.EqLayable
import Wide.Seal
import KE.KDictList
import KE.KEqDict
import PyProof.ListRange
import PyProof.Rows.SetFrom
import PySem.Challenge.RW_graphsame_s01_answers
set_option linter.all false
set_option Elab.async false
set_option maxRecDepth 100000
set_option maxHeartbeats 4100000
open List (all_cons all_eq_true all_map any_cons append_assoc append_nil contains_eq_mem countP_congr countP_eq_zero countP_map count_eq_countP ext_getElem? filter_append filter_congr filter_cons filter_sublist foldl_cons getD_eq_getElem?_getD getElem_mem getElem_of_mem idxOf_lt_length_of_mem length_append length_cons length_eq_zero_iff length_filter_le length_map length_pos_iff length_pos_of_mem length_range length_set length_singleton length_take lookup_cons map_append map_congr_left map_cons map_map map_nil mem_append mem_append_left mem_append_right mem_cons mem_cons_of_mem mem_cons_self mem_filter mem_flatMap mem_map mem_of_getElem? mem_range mem_singleton mem_take_iff_getElem nodup_append nodup_cons nodup_nil nodup_range not_mem_nil perm_ext_iff_of_nodup range_succ size_toArray sum_cons take_append_drop take_length)
open Nat (add_comm add_mod add_mul le_add_right le_antisymm le_of_lt le_of_succ_le le_refl le_trans lt_irrefl lt_of_le_of_lt lt_of_lt_of_le lt_or_eq_of_le lt_trichotomy mul_assoc mul_comm mul_mod mul_one ne_of_lt pow_le_pow_right pow_succ zero_add zero_le)
open PySem.W (Frag fnOf nsIn codeIn keepIn)
namespace GS
open Rc81
theorem nc(l:List Nat):∀(m v:Nat),(l.foldl (fun m a=>Nat.lor m (2 ^ a)) m).testBit v=(m.testBit v||l.contains v):=by
 induction l with
 |nil=>intro m v;simp
 |cons a l ih=>
  intro m v
  rw[foldl_cons,ih]
  show((m ||| 2 ^ a).testBit v||l.contains v)=_
  rw[Nat.testBit_or,Nat.testBit_two_pow,List.contains_cons]
  by_cases h:a=v
  ·subst h;simp
  ·have:(v==a)=false:=by simp;exact fun q=>h q.symm
   simp[h,this]
theorem rh(l:List Nat)(v:Nat):(mask l).testBit v=l.contains v:=by
 unfold mask
 rw[nc]
 simp
theorem cu(n:Nat)(e:Nat→Nat→Bool)(u v:Nat):edge (drawn n e) u v=(decide (u<n)&&decide (v<n)&&e u v):=by
 unfold edge drawn
 by_cases hu:u<n
 ·simp only[getD_eq_getElem?_getD,List.getElem?_map]
  rw[List.getElem?_range hu]
  simp only[Option.map_some,Option.getD_some]
  rw[rh]
  by_cases hv:v<n
  ·cases he:e u v
   ·simp[hu,hv,he,contains_eq_mem]
   ·simp[hu,hv,he,contains_eq_mem]
  ·simp[hu,hv,contains_eq_mem]
 ·simp only[getD_eq_getElem?_getD,List.getElem?_map]
  rw[List.getElem?_eq_none (by simp;omega)]
  simp[hu]
theorem zc(n:Nat)(e:Nat→Nat→Bool):(drawn n e).n=n:=rfl
theorem sf{n:Nat}{e e':Nat→Nat→Bool}(h:∀ u v,u<n→v<n→e u v=e' u v):drawn n e=drawn n e':=by
 unfold drawn
 congr 1
 refine map_congr_left fun u hu=>?_
 congr 1
 refine filter_congr fun v hv=>?_
 exact h u v (mem_range.mp hu) (mem_range.mp hv)
theorem zp(l:List Nat)(n:Nat)(h:∀ a∈l,a<n):mask l<2 ^ n:=by
 refine Nat.lt_pow_two_of_testBit _ fun i hi=>?_
 rw[rh]
 simp[contains_eq_mem]
 intro hm
 have:=h i hm
 omega
theorem eQ{n:Nat}{e:Nat→Nat→Bool}(hs:∀ u v,u<n→v<n→e u v=e v u)(hi:∀ u,u<n→e u u=false):Fine (drawn n e) where
 rows:=by
  refine⟨by simp[drawn],fun m hm=>?_⟩
  simp[drawn]at hm
  obtain⟨u,hu,rfl⟩:=hm
  exact zp _ _ fun a ha=>by simp at ha;exact ha.1
 both:=fun u v=>by
  rw[cu,cu]
  by_cases hu:u<n<;>by_cases hv:v<n<;>simp[hu,hv]
  exact hs u v hu hv
 none_:=fun u=>by
  rw[cu]
  by_cases hu:u<n<;>simp[hu]
  exact hi u hu
theorem kh{G:Graph}(h:Fine G){u v:Nat}(e:edge G u v=true):u<G.n∧v<G.n:=by
 have one:∀ u v,edge G u v=true→v<G.n:=by
  intro u v e
  refine Classical.byContradiction fun hv=>?_
  unfold edge at e
  cases q:G.rows[u]? with
  |none=>rw[getD_eq_getElem?_getD,q]at e;simp at e
  |some m=>
   rw[getD_eq_getElem?_getD,q]at e
   simp at e
   have hm:=h.rows.2 m (mem_of_getElem? q)
   have:m.testBit v=false:=Nat.testBit_lt_two_pow (lt_of_lt_of_le hm (pow_le_pow_right (by decide) (by omega)))
   rw[this]at e;cases e
 exact⟨one v u (by rw[h.both];exact e),one u v e⟩
theorem lP:Fine {} where
 rows:=⟨rfl,fun m hm=>by cases hm⟩
 both:=fun u v=>by simp[edge]
 none_:=fun u=>by simp[edge]
theorem mem_near{G:Graph}{u v:Nat}:v∈near G u↔v<G.n∧edge G u v=true:=by
 unfold near points
 simp
theorem gY(G:Graph)(u:Nat):(near G u).Nodup:=by
 unfold near points
 exact List.Nodup.sublist (filter_sublist) nodup_range
theorem mB{l:List Nat}:∀{n:Nat},l.Nodup→(∀ x∈l,x<n)→l.length≤n:=by
 intro n hd hb
 have h2:List.Perm ((List.range n).filter (fun x=>l.contains x)) l:=by
  refine(perm_ext_iff_of_nodup (List.Nodup.sublist filter_sublist nodup_range) hd).mpr fun a=>?_
  simp[contains_eq_mem]
  exact hb a
 have h3:=h2.length_eq
 have h4:((List.range n).filter fun x=>l.contains x).length≤(List.range n).length:=length_filter_le _ _
 rw[h3,length_range]at h4
 exact h4
theorem l7{l:List Nat}{n:Nat}(hd:l.Nodup)(hb:∀ x∈l,x<n)(hl:l.length=n):List.Perm l (List.range n):=by
 have h2:List.Perm ((List.range n).filter (fun x=>l.contains x)) l:=by
  refine(perm_ext_iff_of_nodup (List.Nodup.sublist filter_sublist nodup_range) hd).mpr fun a=>?_
  simp[contains_eq_mem]
  exact hb a
 have h3:=h2.length_eq
 have h5:(List.range n).filter (fun x=>l.contains x)=List.range n:=by
  have hs:List.Sublist ((List.range n).filter (fun x=>l.contains x)) (List.range n):=filter_sublist
  exact hs.eq_of_length (by rw[h3,hl,length_range])
 rw[h5]at h2
 exact h2.symm
structure Iso(G H:Graph)(f:Nat→Nat):Prop where
 n:G.n=H.n
 lt:∀ u,u<G.n→f u<H.n
 inj:∀ u v,u<G.n→v<G.n→f u=f v→u=v
 edge:∀ u v,u<G.n→v<G.n→Rc81.edge G u v=Rc81.edge H (f u) (f v)
theorem eG{f:Nat→Nat}:∀{l:List Nat},l.Nodup→(∀ u v,u∈l→v∈l→f u=f v→u=v)→(l.map f).Nodup
 |[],_,_=>nodup_nil
 |a::l,hd,hi=>by
  rw[map_cons,nodup_cons]
  rw[nodup_cons]at hd
  refine⟨fun hm=>?_,eG hd.2 fun u v hu hv e=>hi u v (mem_cons_of_mem _ hu) (mem_cons_of_mem _ hv) e⟩
  obtain⟨b,hb,e⟩:=mem_map.mp hm
  have:=hi b a (mem_cons_of_mem _ hb) mem_cons_self e
  rw[this]at hb
  exact hd.1 hb
theorem Iso.perm{G H:Graph}{f:Nat→Nat}(i:Iso G H f):List.Perm ((List.range G.n).map f) (List.range H.n):=by
 refine l7 (eG nodup_range fun u v hu hv e=>i.inj u v (mem_range.mp hu) (mem_range.mp hv) e) ?_ ?_
 ·intro x hx
  obtain⟨u,hu,rfl⟩:=mem_map.mp hx
  exact i.lt u (mem_range.mp hu)
 ·rw[length_map,length_range,i.n]
theorem Iso.near{G H:Graph}{f:Nat→Nat}(i:Iso G H f){u:Nat}(hu:u<G.n):List.Perm ((near G u).map f) (near H (f u)):=by
 have h1:List.Perm (((List.range G.n).map f).filter fun v=>Rc81.edge H (f u) v) ((List.range H.n).filter fun v=>Rc81.edge H (f u) v):=i.perm.filter _
 have h2:((List.range G.n).map f).filter (fun v=>Rc81.edge H (f u) v)=(Rc81.near G u).map f:=by
  rw[List.filter_map]
  unfold Rc81.near points
  congr 1
  refine filter_congr fun v hv=>?_
  exact(i.edge u v hu (mem_range.mp hv)).symm
 rw[h2]at h1
 exact h1
theorem Iso.surj{G H:Graph}{f:Nat→Nat}(i:Iso G H f){v:Nat}(hv:v<H.n):∃ u,u<G.n∧f u=v:=by
 have:=i.perm.mem_iff.mpr (mem_range.mpr hv)
 obtain⟨u,hu,e⟩:=mem_map.mp this
 exact⟨u,mem_range.mp hu,e⟩
theorem Iso.id(G:Graph):Iso G G (fun u=>u):=⟨rfl,fun _ h=>h,fun _ _ _ _ e=>e,fun _ _ _ _=>rfl⟩
theorem Iso.trans{G H K:Graph}{f g:Nat→Nat}(i:Iso G H f)(j:Iso H K g):Iso G K (fun u=>g (f u)):=
 ⟨i.n.trans j.n,fun u hu=>j.lt _ (i.lt u hu),fun u v hu hv e=>i.inj u v hu hv (j.inj _ _ (i.lt u hu) (i.lt v hv) e),fun u v hu hv=>(i.edge u v hu hv).trans (j.edge _ _ (i.lt u hu) (i.lt v hv))⟩
theorem Iso.symm{G H:Graph}{f:Nat→Nat}(i:Iso G H f):∃ g,Iso H G g∧(∀ u,u<G.n→g (f u)=u)∧∀ v,v<H.n→f (g v)=v:=by
 have hx:∀ v,∃ u,v<H.n→u<G.n∧f u=v:=fun v=>by
  by_cases hv:v<H.n
  ·obtain⟨u,h⟩:=i.surj hv
   exact⟨u,fun _=>h⟩
  ·exact⟨0,fun q=>absurd q hv⟩
 refine⟨fun v=>Classical.choose (hx v),?_⟩
 have hg:∀ v,v<H.n→Classical.choose (hx v)<G.n∧f (Classical.choose (hx v))=v:=fun v hv=>Classical.choose_spec (hx v) hv
 refine⟨⟨i.n.symm,fun v hv=>(hg v hv).1,fun u v hu hv e=>?_,fun u v hu hv=>?_⟩,fun u hu=>?_,fun v hv=>(hg v hv).2⟩
 ·have:=congrArg f e
  rw[(hg u hu).2,(hg v hv).2]at this
  exact this
 ·rw[i.edge _ _ (hg u hu).1 (hg v hv).1,(hg u hu).2,(hg v hv).2]
 ·exact i.inj _ _ (hg _ (i.lt u hu)).1 hu (hg _ (i.lt u hu)).2
theorem cK(G H:Graph)(k:Nat):(colours G H k).1.length=G.n∧(colours G H k).2.length=H.n:=by
 cases k with
 |zero=>simp[colours,points]
 |succ k=>simp[colours,deeper,points]
abbrev c1(G H:Graph)(k u:Nat):Nat:=(colours G H k).1.getD u 0
abbrev c2(G H:Graph)(k u:Nat):Nat:=(colours G H k).2.getD u 0
def signs(G H:Graph)(k:Nat):List (List Nat):=
 (points G).map (sign G (colours G H k).1 (G.n+H.n))++(points H).map (sign H (colours G H k).2 (G.n+H.n))
theorem vj(G H:Graph)(k:Nat){u:Nat}(hu:u<G.n):c1 G H (k+1) u=(signs G H k).idxOf (sign G (colours G H k).1 (G.n+H.n) u):=by
 unfold c1
 simp only[colours,deeper,points,getD_eq_getElem?_getD,List.getElem?_map,map_map]
 rw[List.getElem?_range hu]
 rfl
theorem vo(G H:Graph)(k:Nat){u:Nat}(hu:u<H.n):c2 G H (k+1) u=(signs G H k).idxOf (sign H (colours G H k).2 (G.n+H.n) u):=by
 unfold c2
 simp only[colours,deeper,points,getD_eq_getElem?_getD,List.getElem?_map,map_map]
 rw[List.getElem?_range hu]
 rfl
theorem gH(G H:Graph)(u:Nat):c1 G H 0 u=0:=by
 unfold c1
 simp only[colours,points,getD_eq_getElem?_getD,List.getElem?_map]
 cases (List.range G.n)[u]?<;>rfl
theorem kj(G H:Graph)(u:Nat):c2 G H 0 u=0:=by
 unfold c2
 simp only[colours,points,getD_eq_getElem?_getD,List.getElem?_map]
 cases (List.range H.n)[u]?<;>rfl
theorem xT{G H:Graph}{f:Nat→Nat}(i:Iso G H f){c d:List Nat}(m:Nat)(hc:∀ u,u<G.n→c.getD u 0=d.getD (f u) 0){u:Nat}(hu:u<G.n):sign G c m u=sign H d m (f u):=by
 unfold sign
 rw[hc u hu]
 congr 1
 refine map_congr_left fun z _=>?_
 rw[← (i.near hu).countP_eq,countP_map]
 refine countP_congr fun x hx=>?_
 have:=(mem_near.mp hx).1
 show(c.getD x 0==z)=true↔(d.getD (f x) 0==z)=true
 rw[hc x this]
theorem Iso.col{G H:Graph}{f:Nat→Nat}(i:Iso G H f):∀(k u:Nat),u<G.n→c1 G H k u=c2 G H k (f u)
 |0,u,hu=>by rw[gH,kj]
 |k+1,u,hu=>by
  rw[vj G H k hu,vo G H k (i.lt u hu),xT i (G.n+H.n) (fun u hu=>i.col k u hu) hu]
theorem bT(l:List Nat):l=(List.range l.length).map fun i=>l.getD i 0:=by
 refine ext_getElem? fun i=>?_
 rw[List.getElem?_map]
 by_cases h:i<l.length
 ·rw[List.getElem?_range h,List.getElem?_eq_getElem h]
  simp[getD_eq_getElem?_getD,List.getElem?_eq_getElem h]
 ·rw[List.getElem?_eq_none (by omega),List.getElem?_eq_none (by simp;omega)]
  rfl
theorem Iso.perm_col{G H:Graph}{f:Nat→Nat}(i:Iso G H f)(k:Nat):List.Perm (colours G H k).1 (colours G H k).2:=by
 rw[bT (colours G H k).1,bT (colours G H k).2,(cK G H k).1,(cK G H k).2]
 have h:=i.perm.map (fun v=>c2 G H k v)
 rw[map_map]at h
 have e:(List.range G.n).map ((fun v=>c2 G H k v)∘f)=(List.range G.n).map fun u=>c1 G H k u:=by
  refine map_congr_left fun u hu=>?_
  exact(i.col k u (mem_range.mp hu)).symm
 rw[e]at h
 exact h
theorem Iso.refined{G H:Graph}{f:Nat→Nat}(i:Iso G H f):refinedOf G H=true:=by
 unfold refinedOf
 rw[Bool.and_eq_true]
 refine⟨by simp[i.n],?_⟩
 rw[all_eq_true]
 intro k _
 rw[(i.perm_col (G.n+H.n)).countP_eq]
 simp
structure Part(G H:Graph)(c:Colours)(q p:List Nat):Prop where
 len:p.length≤q.length
 nd:p.Nodup
 lt:∀ x∈p,x<H.n
 col:∀ i,i<p.length→c.1.getD (q.getD i 0) 0=c.2.getD (p.getD i 0) 0
 edge:∀ i j,j<i→i<p.length→Rc81.edge G (q.getD j 0) (q.getD i 0)=Rc81.edge H (p.getD j 0) (p.getD i 0)
theorem aO(p s:List Nat){i:Nat}(h:i<p.length):(p++s).getD i 0=p.getD i 0:=by
 rw[getD_eq_getElem?_getD,getD_eq_getElem?_getD,List.getElem?_append_left h]
theorem a3(p s:List Nat)(v:Nat):(p++v::s).getD p.length 0=v:=by
 rw[getD_eq_getElem?_getD,List.getElem?_append_right (le_refl _)]
 simp
theorem Part.pre{G H:Graph}{c:Colours}{q p s:List Nat}(h:Part G H c q (p++s)):Part G H c q p:=by
 have hl:(p++s).length=p.length+s.length:=length_append
 refine⟨by have:=h.len;omega,(nodup_append.mp h.nd).1,fun x hx=>h.lt x (mem_append_left _ hx),fun i hi=>?_,fun i j hj hi=>?_⟩
 ·have:=h.col i (by omega)
  rw[aO p s hi]at this
  exact this
 ·have:=h.edge i j hj (by omega)
  rw[aO p s hi,aO p s (by omega)]at this
  exact this
def fits(G H:Graph)(c:Colours)(q p:List Nat)(v:Nat):Bool:=
 !p.contains v&&(c.1.getD (q.getD p.length 0) 0==c.2.getD v 0&&(List.range p.length).all fun(j:Nat)=>edge G (q.getD j 0) (q.getD p.length 0)==edge H (p.getD j 0) v)
theorem dU{G H:Graph}{c:Colours}{q p:List Nat}{v:Nat}(hp:Part G H c q p)(hl:p.length<q.length)(hv:v<H.n):fits G H c q p v=true↔Part G H c q (p++[v]):=by
 unfold fits
 rw[Bool.and_eq_true,Bool.and_eq_true,all_eq_true]
 constructor
 ·rintro⟨h1,h2,h3⟩
  have hne:v∉p:=by
   intro hm
   simp[contains_eq_mem,hm]at h1
  refine⟨by rw[length_append];exact hl,?_,?_,?_,?_⟩
  ·rw[nodup_append]
   refine⟨hp.nd,by simp,?_⟩
   intro a ha b hb
   simp at hb
   subst hb
   intro e
   subst e
   exact hne ha
  ·intro x hx
   rcases mem_append.mp hx with hx|hx
   ·exact hp.lt x hx
   ·simp at hx;subst hx;exact hv
  ·intro i hi
   by_cases hi':i<p.length
   ·rw[aO p [v] hi']
    exact hp.col i hi'
   ·have:i=p.length:=by simp at hi;omega
    subst this
    rw[a3]
    exact eq_of_beq h2
  ·intro i j hj hi
   by_cases hi':i<p.length
   ·rw[aO p [v] hi',aO p [v] (by omega)]
    exact hp.edge i j hj hi'
   ·have:i=p.length:=by simp at hi;omega
    subst this
    rw[a3,aO p [v] hj]
    exact eq_of_beq (h3 j (mem_range.mpr hj))
 ·intro h
  have hl':(p++[v]).length=p.length+1:=by simp
  refine⟨?_,?_,?_⟩
  ·have:=(nodup_append.mp h.nd).2.2
   simp[contains_eq_mem]
   intro hm
   exact this v hm v (by simp) rfl
  ·have:=h.col p.length (by omega)
   rw[a3]at this
   rw[this]
   simp
  ·intro j hj
   have hj:=mem_range.mp hj
   have:=h.edge p.length j hj (by omega)
   rw[a3,aO p [v] hj]at this
   rw[this]
   simp
theorem wt(G H:Graph)(c:Colours)(q:List Nat)(f:Nat)(p:List Nat):goOn G H c q (f+1) p=(List.range H.n).findSome? fun v=>if fits G H c q p v=true then goOn G H c q f (p++[v])else none:=rfl
theorem nE:∀(p s t:List Nat),s≤t→p++s≤p++t
 |[],_,_,h=>h
 |a::p,s,t,h=>by
  rw[List.cons_append,List.cons_append,List.cons_le_cons_iff]
  exact .inr ⟨rfl,nE p s t h⟩
theorem o7(p s t:List Nat){a b:Nat}(h:a<b):p++a::s≤p++b::t:=
 nE p _ _ (by rw[List.cons_le_cons_iff];exact .inl h)
def uf(G H:Graph)(c:Colours)(q r:List Nat):Prop:=Part G H c q r∧r.length=q.length
theorem dS(G H:Graph)(c:Colours)(q:List Nat):∀(f:Nat) (p:List Nat),Part G H c q p→p.length+f=q.length→
  (goOn G H c q f p=none→∀ s,¬ uf G H c q (p++s))∧
  (∀ r,goOn G H c q f p=some r→uf G H c q r∧(∃ s,r=p++s)∧∀ s,uf G H c q (p++s)→r≤p++s)
 |0,p,hp,hl=>by
  refine⟨fun h=>by simp[goOn]at h,fun r h=>?_⟩
  have e:p=r:=by simpa [goOn]using h
  subst e
  refine⟨⟨hp,by omega⟩,⟨[],by simp⟩,fun s hs=>?_⟩
  have:s=[]:=by
   have:=hs.2
   rw[length_append]at this
   exact List.eq_nil_of_length_eq_zero (by omega)
  subst this
  rw[append_nil]
  exact List.le_refl _
 |f+1,p,hp,hl=>by
  have split:∀ s,uf G H c q (p++s)→∃ v t,s=v::t∧v<H.n∧fits G H c q p v=true∧uf G H c q ((p++[v])++t):=by
   intro s hs
   cases s with
   |nil=>have:=hs.2;rw[length_append]at this;simp at this;omega
   |cons v t=>
    have e:p++v::t=(p++[v])++t:=by simp
    have hv:v<H.n:=hs.1.lt v (by simp)
    rw[e]at hs
    exact⟨v,t,rfl,hv,(dU hp (by omega) hv).mpr hs.1.pre,hs⟩
  rw[wt]
  constructor
  ·intro h s hs
   obtain⟨v,t,rfl,hv,hf,hs⟩:=split s hs
   rw[List.findSome?_eq_none_iff]at h
   have:=h v (mem_range.mpr hv)
   rw[if_pos hf]at this
   exact(dS G H c q f (p++[v]) ((dU hp (by omega) hv).mp hf) (by simp;omega)).1 this t hs
  ·intro r h
   rw[List.findSome?_eq_some_iff]at h
   obtain⟨l1,v,l2,el,hv,hn⟩:=h
   have hvlt:v<H.n:=by
    have:v∈List.range H.n:=by rw[el];simp
    exact mem_range.mp this
   have hf:fits G H c q p v=true:=by
    refine Classical.byContradiction fun q=>?_
    rw[if_neg q]at hv
    cases hv
   rw[if_pos hf]at hv
   have ih:=(dS G H c q f (p++[v]) ((dU hp (by omega) hvlt).mp hf) (by simp;omega)).2 r hv
   obtain⟨h1,⟨s0,e0⟩,h3⟩:=ih
   refine⟨h1,⟨v::s0,by rw[e0];simp⟩,fun s hs=>?_⟩
   obtain⟨v',t,rfl,hv',hf',hs'⟩:=split s hs
   rcases lt_trichotomy v' v with hlt|heq|hgt
   ·
    have hmem:v'∈l1:=by
     have hs2:(List.range H.n).Pairwise (· < ·):=List.pairwise_lt_range
     have hm:v'∈l1++v::l2:=by rw[← el];exact mem_range.mpr hv'
     rcases mem_append.mp hm with hm|hm
     ·exact hm
     ·rw[el,List.pairwise_append]at hs2
      rcases mem_cons.mp hm with hm|hm
      ·omega
      ·have:=(List.pairwise_cons.mp hs2.2.1).1 v' hm
       omega
    have:=hn v' hmem
    rw[if_pos hf']at this
    exact absurd hs' ((dS G H c q f (p++[v']) ((dU hp (by omega) hv').mp hf') (by simp;omega)).1 this t)
   ·subst heq
    have:=h3 t hs'
    simpa using this
   ·rw[e0]
    have:p++[v]++s0=p++v::s0:=by simp
    rw[this]
    exact o7 p s0 t hgt
structure Whole(n:Nat)(q:List Nat):Prop where
 nd:q.Nodup
 lt:∀ x∈q,x<n
 len:q.length=n
theorem Whole.mem{n:Nat}{q:List Nat}(w:Whole n q){x:Nat}(h:x<n):x∈q:=
 (l7 w.nd w.lt w.len).mem_iff.mpr (mem_range.mpr h)
theorem cN(n:Nat):Whole n (List.range n):=⟨nodup_range,fun _ h=>mem_range.mp h,length_range⟩
theorem qm{n u:Nat}(hu:u<n):Whole n (u::(List.range n).filter fun x=>x != u):=by
 have hp:List.Perm (u::(List.range n).filter fun x=>x != u) (List.range n):=by
  refine(perm_ext_iff_of_nodup ?_ nodup_range).mpr fun a=>?_
  ·rw[nodup_cons]
   exact⟨by simp,List.Nodup.sublist filter_sublist nodup_range⟩
  ·simp
   constructor
   ·rintro(rfl|h)
    ·exact hu
    ·exact h.1
   ·intro h
    by_cases e:a=u
    ·exact .inl e
    ·exact .inr ⟨h,e⟩
 exact⟨(hp.nodup_iff).mpr nodup_range,fun x hx=>mem_range.mp (hp.mem_iff.mp hx),by rw[hp.length_eq,length_range]⟩
theorem de{q:List Nat}{x:Nat}(h:x∈q):q.getD (q.idxOf x) 0=x:=by
 rw[getD_eq_getElem?_getD,List.getElem?_eq_getElem (idxOf_lt_length_of_mem h)]
 simp[List.getElem_idxOf]
theorem getD_mem{r:List Nat}{i:Nat}(h:i<r.length):r.getD i 0∈r:=by
 rw[getD_eq_getElem?_getD,List.getElem?_eq_getElem h]
 exact getElem_mem h
theorem eJ{q:List Nat}(hd:q.Nodup){i j:Nat}(hi:i<q.length)(hj:j<q.length)(e:q.getD i 0=q.getD j 0):i=j:=by
 rw[getD_eq_getElem?_getD,getD_eq_getElem?_getD,List.getElem?_eq_getElem hi,List.getElem?_eq_getElem hj]at e
 simp only[Option.getD_some]at e
 rw[List.Nodup,List.pairwise_iff_getElem]at hd
 rcases lt_trichotomy i j with h|h|h
 ·exact absurd e (hd i j hi hj h)
 ·exact h
 ·exact absurd e.symm (hd j i hj hi h)
theorem ug{q:List Nat}(hd:q.Nodup){i:Nat}(h:i<q.length):q.idxOf (q.getD i 0)=i:=by
 have hm:=getD_mem h
 exact eJ hd (idxOf_lt_length_of_mem hm) h (de hm)
theorem qI{G H:Graph}{c:Colours}{q r:List Nat}(fG:Fine G)(fH:Fine H)(hn:G.n=H.n)(w:Whole G.n q)(h:uf G H c q r):∃ f,Iso G H f∧∀ i,i<q.length→f (q.getD i 0)=r.getD i 0:=by
 obtain⟨hp,hl⟩:=h
 have edges:∀ i j,i<q.length→j<q.length→Rc81.edge G (q.getD i 0) (q.getD j 0)=Rc81.edge H (r.getD i 0) (r.getD j 0):=by
  intro i j hi hj
  rcases lt_trichotomy i j with h|h|h
  ·exact hp.edge j i h (by omega)
  ·subst h
   rw[fG.none_,fH.none_]
  ·rw[fG.both,fH.both]
   exact hp.edge i j h (by omega)
 refine⟨fun u=>r.getD (q.idxOf u) 0,⟨hn,?_,?_,?_⟩,?_⟩
 ·intro u hu
  have:=idxOf_lt_length_of_mem (w.mem hu)
  exact hp.lt _ (getD_mem (by omega))
 ·intro u v hu hv e
  have h1:=idxOf_lt_length_of_mem (w.mem hu)
  have h2:=idxOf_lt_length_of_mem (w.mem hv)
  have:=eJ hp.nd (by omega) (by omega) e
  rw[← de (w.mem hu),← de (w.mem hv),this]
 ·intro u v hu hv
  have h1:=idxOf_lt_length_of_mem (w.mem hu)
  have h2:=idxOf_lt_length_of_mem (w.mem hv)
  have:=edges _ _ h1 h2
  rw[de (w.mem hu),de (w.mem hv)]at this
  exact this
 ·intro i hi
  show r.getD (q.idxOf (q.getD i 0)) 0=_
  rw[ug w.nd hi]
theorem kX{q:List Nat}(f:Nat→Nat){i:Nat}(h:i<q.length):(q.map f).getD i 0=f (q.getD i 0):=by
 rw[getD_eq_getElem?_getD,getD_eq_getElem?_getD,List.getElem?_map,List.getElem?_eq_getElem h]
 rfl
theorem ft{G H:Graph}{f:Nat→Nat}(i:Iso G H f)(k:Nat){q:List Nat}(w:Whole G.n q):uf G H (colours G H k) q (q.map f):=by
 refine⟨⟨by simp,?_,?_,?_,?_⟩,by simp⟩
 ·exact eG w.nd fun u v hu hv e=>i.inj u v (w.lt u hu) (w.lt v hv) e
 ·intro x hx
  obtain⟨u,hu,rfl⟩:=mem_map.mp hx
  exact i.lt u (w.lt u hu)
 ·intro j hj
  rw[length_map]at hj
  rw[kX f hj]
  exact i.col k _ (w.lt _ (getD_mem hj))
 ·intro a b hb ha
  rw[length_map]at ha
  rw[kX f ha,kX f (by omega)]
  exact i.edge _ _ (w.lt _ (getD_mem (by omega))) (w.lt _ (getD_mem ha))
theorem jj{q p:List Nat}{f:Nat→Nat}(hl:p.length≤q.length)(h:∀ i,i<p.length→f (q.getD i 0)=p.getD i 0):q.map f=p++(q.map f).drop p.length:=by
 have:(q.map f).take p.length=p:=by
  refine ext_getElem? fun i=>?_
  by_cases hi:i<p.length
  ·rw[List.getElem?_take_of_lt hi,List.getElem?_map,List.getElem?_eq_getElem (by omega),List.getElem?_eq_getElem hi]
   have:=h i hi
   rw[getD_eq_getElem?_getD,getD_eq_getElem?_getD,List.getElem?_eq_getElem (by omega),List.getElem?_eq_getElem hi]at this
   simpa using this
  ·rw[List.getElem?_eq_none (by simp;omega),List.getElem?_eq_none (by omega)]
 conv=>lhs;rw[← take_append_drop p.length (q.map f),this]
theorem jB{G H:Graph}(fG:Fine G)(fH:Fine H)(hn:G.n=H.n){q p:List Nat}(w:Whole G.n q)(k:Nat){f:Nat}(hp:Part G H (colours G H k) q p)(hl:p.length+f=G.n):
  (goOn G H (colours G H k) q f p).isSome=true↔∃ g,Iso G H g∧∀ i,i<p.length→g (q.getD i 0)=p.getD i 0:=by
 have sp:=dS G H (colours G H k) q f p hp (by rw[w.len];exact hl)
 constructor
 ·intro h
  obtain⟨r,hr⟩:=Option.isSome_iff_exists.mp h
  obtain⟨hf,⟨s,rfl⟩,_⟩:=sp.2 r hr
  obtain⟨g,hg,hq⟩:=qI fG fH hn w hf
  refine⟨g,hg,fun i hi=>?_⟩
  rw[hq i (by have:=hp.len;omega),aO p s hi]
 ·rintro⟨g,hg,hq⟩
  have hf:=ft hg k w
  rw[jj hp.len hq]at hf
  cases e:goOn G H (colours G H k) q f p with
  |none=>exact absurd hf (sp.1 e _)
  |some r=>rfl
structure FirstMap(G H:Graph)(r:List Nat):Prop where
 ex:∃ f,Iso G H f∧r=(List.range G.n).map f
 least:∀ f,Iso G H f→r≤(List.range G.n).map f
theorem qF(G H:Graph)(c:Colours)(q:List Nat):Part G H c q []:=
 ⟨zero_le _,nodup_nil,(fun _ h=>by cases h),(fun _ h=>by cases h),(fun _ _ _ h=>by cases h)⟩
theorem lY{G H:Graph}(fG:Fine G)(fH:Fine H):(mapOf G H=none∧∀ f,¬ Iso G H f)∨∃ r,mapOf G H=some r∧FirstMap G H r:=by
 unfold mapOf
 cases hr:refinedOf G H with
 |false=>
  left
  refine⟨if_pos rfl,fun f i=>?_⟩
  rw[i.refined]at hr
  cases hr
 |true=>
  rw[if_neg (by simp)]
  have hn:G.n=H.n:=by
   unfold refinedOf at hr
   rw[Bool.and_eq_true]at hr
   exact eq_of_beq hr.1
  have sp:=dS G H (colours G H (G.n+H.n)) (points G) G.n [] (qF _ _ _ _) (by simp[points])
  cases e:goOn G H (colours G H (G.n+H.n)) (points G) G.n []with
  |none=>
   left
   exact⟨rfl,fun f i=>sp.1 e _ (ft i _ (cN G.n))⟩
  |some r=>
   right
   obtain⟨hf,_,hle⟩:=sp.2 r e
   refine⟨r,rfl,?_,fun f i=>hle _ (ft i _ (cN G.n))⟩
   obtain⟨g,hg,hq⟩:=qI fG fH hn (cN G.n) hf
   refine⟨g,hg,?_⟩
   have hl:r.length=G.n:=by rw[hf.2];simp[points]
   rw[bT r,hl]
   refine map_congr_left fun i hi=>?_
   have:=hq i (by simpa using hi)
   rw[← this]
   congr 1
   have hi:=mem_range.mp hi
   rw[getD_eq_getElem?_getD,List.getElem?_range hi]
   rfl
theorem FirstMap.eq{G H:Graph}{r s:List Nat}(a:FirstMap G H r)(b:FirstMap G H s):r=s:=by
 obtain⟨f,hf,rfl⟩:=a.ex
 obtain⟨g,hg,rfl⟩:=b.ex
 exact List.le_antisymm (a.least g hg) (b.least f hf)
theorem oy{G:Graph}(fG:Fine G){q p:List Nat}(w:Whole G.n q)(k:Nat)(hp:Part G G (colours G G k) q p)(hl:p.length<G.n){v:Nat}(hv:v<G.n):
  moves G (colours G G k) q p v=true↔∃ g,Iso G G g∧(∀ i,i<p.length→g (q.getD i 0)=p.getD i 0)∧g (q.getD p.length 0)=v:=by
 have e:moves G (colours G G k) q p v=(fits G G (colours G G k) q p v&&(goOn G G (colours G G k) q (G.n - p.length - 1) (p++[v])).isSome):=by
  unfold moves fits
  simp only[Bool.and_assoc]
 rw[e,Bool.and_eq_true]
 have hl':p.length<q.length:=by rw[w.len];exact hl
 have hlen:(p++[v]).length=p.length+1:=by simp
 constructor
 ·rintro⟨h1,h2⟩
  have hp':=(dU hp hl' hv).mp h1
  obtain⟨g,hg,hq⟩:=(jB fG fG rfl w k hp' (by omega)).mp h2
  refine⟨g,hg,fun i hi=>?_,?_⟩
  ·rw[hq i (by omega),aO p [v] hi]
  ·rw[hq p.length (by omega),a3]
 ·rintro⟨g,hg,hq,hv'⟩
  have hq':∀ i,i<(p++[v]).length→g (q.getD i 0)=(p++[v]).getD i 0:=by
   intro i hi
   by_cases h:i<p.length
   ·rw[aO p [v] h];exact hq i h
   ·have:i=p.length:=by omega
    subst this
    rw[a3];exact hv'
  have hf:=ft hg k w
  rw[jj (by omega) hq']at hf
  have hp':=hf.1.pre
  exact⟨(dU hp hl' hv).mpr hp',(jB fG fG rfl w k hp' (by omega)).mpr ⟨g,hg,hq'⟩⟩
theorem uv{G:Graph}(k:Nat){i:Nat}(hi:i≤G.n):Part G G (colours G G k) (List.range G.n) (List.range i):=by
 have h:=(ft (Iso.id G) k (cN G.n)).1
 have e:(List.range G.n).map (fun u=>u)=List.range i++((List.range G.n).map (fun u=>u)).drop i:=by
  have:=jj (q:=List.range G.n) (p:=List.range i) (f:=fun u=>u) (by simpa using hi) (fun j hj=>by
   have hj:j<i:=by simpa using hj
   rw[getD_eq_getElem?_getD,getD_eq_getElem?_getD,List.getElem?_range hj,List.getElem?_range (by omega)])
  simpa using this
 rw[e]at h
 exact h.pre
def Puts(G:Graph)(i v:Nat):Prop:=∃ g,Iso G G g∧(∀ j,j<i→g j=j)∧g i=v
theorem ll{G:Graph}(fG:Fine G)(k:Nat){i v:Nat}(hi:i<G.n)(hv:v<G.n):moves G (colours G G k) (points G) (List.range i) v=true↔Puts G i v:=by
 have h:=oy fG (cN G.n) k (uv k (le_of_lt hi)) (by simpa using hi) hv
 unfold points
 rw[h]
 have gr:∀ j,j<G.n→(List.range G.n).getD j 0=j:=fun j hj=>by
  rw[getD_eq_getElem?_getD,List.getElem?_range hj];rfl
 have gr':∀ j,j<i→(List.range i).getD j 0=j:=fun j hj=>by
  rw[getD_eq_getElem?_getD,List.getElem?_range hj];rfl
 simp only[length_range]
 rw[gr i hi]
 constructor
 ·rintro⟨g,hg,h1,h2⟩
  refine⟨g,hg,fun j hj=>?_,h2⟩
  have:=h1 j hj
  rw[gr j (by omega),gr' j hj]at this
  exact this
 ·rintro⟨g,hg,h1,h2⟩
  refine⟨g,hg,fun j hj=>?_,h2⟩
  rw[gr j (by omega),gr' j hj]
  exact h1 j hj
def spots(G:Graph)(i:Nat):Nat:=((List.range G.n).filter fun v=>moves G (colours G G G.n) (points G) (List.range i) v).length
theorem ny{G:Graph}(fG:Fine G){u:Nat}(hu:u<G.n):∃ v,(orbitsOf G)[u]?=some v∧(∃ g,Iso G G g∧g u=v)∧∀ g,Iso G G g→v≤g u:=by
 have key:∀ v,v<G.n→(moves G (colours G G G.n) (u::(List.range G.n).filter fun x=>x != u) [] v=true↔∃ g,Iso G G g∧g u=v):=by
  intro v hv
  rw[oy fG (qm hu) G.n (qF _ _ _ _) (by show 0<G.n;omega) hv]
  constructor
  ·rintro⟨g,hg,_,h⟩;exact⟨g,hg,h⟩
  ·rintro⟨g,hg,h⟩;exact⟨g,hg,(fun i hi=>by cases hi),h⟩
 unfold orbitsOf points
 simp only[List.getElem?_map,List.getElem?_range hu,Option.map_some]
 cases e:(List.range G.n).find? fun v=>moves G (colours G G G.n) (u::(List.range G.n).filter fun x=>x != u) [] v with
 |none=>
  rw[List.find?_eq_none]at e
  have:=e u (mem_range.mpr hu)
  exact absurd ((key u hu).mpr ⟨_,Iso.id G,rfl⟩) this
 |some v=>
  rw[List.find?_range_eq_some]at e
  obtain⟨h1,h2,h3⟩:=e
  have hv:=mem_range.mp h2
  refine⟨v,rfl,(key v hv).mp h1,fun g hg=>?_⟩
  refine Classical.byContradiction fun hlt=>?_
  have:=h3 (g u) (by omega)
  rw[(key (g u) (hg.lt u hu)).mpr ⟨g,hg,rfl⟩]at this
  cases this
theorem jW(G:Graph):(orbitsOf G).length=G.n:=by simp[orbitsOf,points]
structure Ref(N:Nat)(nb:Nat→List Nat)(a:Nat→Nat→Nat):Prop where
 sub:∀ x,x<N→∀ y∈nb x,y<N
 zero:∀ x y,x<N→y<N→a 0 x=a 0 y
 succ:∀ k x y,x<N→y<N→(a (k+1) x=a (k+1) y↔a k x=a k y∧∀ z,(nb x).countP (fun w=>a k w==z)=(nb y).countP (fun w=>a k w==z))
theorem hZ{N:Nat}{f g:Nat→Nat}(h:∀ x y,x<N→y<N→(f x=f y↔g x=g y)){l m:List Nat}(hl:∀ x∈l,x<N)(hm:∀ x∈m,x<N)
  (e:∀ z,l.countP (fun w=>f w==z)=m.countP (fun w=>f w==z)) (z:Nat):l.countP (fun w=>g w==z)=m.countP (fun w=>g w==z):=by
 by_cases hw:∃ w,w<N∧g w=z
 ·obtain⟨w,hw,rfl⟩:=hw
  have key:∀ r:List Nat,(∀ x∈r,x<N)→r.countP (fun v=>g v==g w)=r.countP (fun v=>f v==f w):=by
   intro r hr
   refine countP_congr fun x hx=>?_
   simp only[beq_iff_eq]
   exact(h x w (hr x hx) hw).symm
  rw[key l hl,key m hm,e]
 ·have key:∀ r:List Nat,(∀ x∈r,x<N)→r.countP (fun v=>g v==z)=0:=by
   intro r hr
   rw[countP_eq_zero]
   intro x hx q
   exact hw ⟨x,hr x hx,eq_of_beq q⟩
  rw[key l hl,key m hm]
theorem Ref.same{N:Nat}{nb:Nat→List Nat}{a b:Nat→Nat→Nat}(ha:Ref N nb a)(hb:Ref N nb b):∀(k x y:Nat),x<N→y<N→(a k x=a k y↔b k x=b k y)
 |0,x,y,hx,hy=>⟨fun _=>hb.zero x y hx hy,fun _=>ha.zero x y hx hy⟩
 |k+1,x,y,hx,hy=>by
  have ih:=Ref.same ha hb k
  rw[ha.succ k x y hx hy,hb.succ k x y hx hy,ih x y hx hy]
  constructor
  ·rintro⟨h1,h2⟩
   exact⟨h1,hZ ih (ha.sub x hx) (ha.sub y hy) h2⟩
  ·rintro⟨h1,h2⟩
   exact⟨h1,hZ (fun x y hx hy=>(ih x y hx hy).symm) (ha.sub x hx) (ha.sub y hy) h2⟩
theorem Ref.down{N:Nat}{nb:Nat→List Nat}{a:Nat→Nat→Nat}(ha:Ref N nb a){k x y:Nat}(hx:x<N)(hy:y<N)(h:a (k+1) x=a (k+1) y):a k x=a k y:=((ha.succ k x y hx hy).mp h).1
def dH(N:Nat)(a:Nat→Nat→Nat)(k:Nat):Prop:=∀ x y,x<N→y<N→a k x=a k y→a (k+1) x=a (k+1) y
theorem Ref.rest_succ{N:Nat}{nb:Nat→List Nat}{a:Nat→Nat→Nat}(ha:Ref N nb a){k:Nat}(h:dH N a k):dH N a (k+1):=by
 intro x y hx hy e
 have eqv:∀ x y,x<N→y<N→(a k x=a k y↔a (k+1) x=a (k+1) y):=fun x y hx hy=>⟨h x y hx hy,ha.down hx hy⟩
 refine(ha.succ (k+1) x y hx hy).mpr ⟨e,?_⟩
 exact hZ eqv (ha.sub x hx) (ha.sub y hy) ((ha.succ k x y hx hy).mp e).2
theorem Ref.stay{N:Nat}{nb:Nat→List Nat}{a:Nat→Nat→Nat}(ha:Ref N nb a){k:Nat}(h:dH N a k):∀(j x y:Nat),x<N→y<N→(a (k+j) x=a (k+j) y↔a k x=a k y):=by
 have hr:∀ j,dH N a (k+j):=by
  intro j
  induction j with
  |zero=>exact h
  |succ j ih=>exact ha.rest_succ ih
 intro j
 induction j with
 |zero=>intro x y _ _;exact Iff.rfl
 |succ j ih=>
  intro x y hx hy
  rw[← ih x y hx hy]
  exact⟨fun q=>ha.down hx hy q,fun q=>hr j x y hx hy q⟩
def first(f:Nat→Nat)(x:Nat):Bool:=(List.range x).all fun y=>f y != f x
theorem first_iff{f:Nat→Nat}{x:Nat}:first f x=true↔∀ y,y<x→f y≠f x:=by
 unfold first
 rw[all_eq_true]
 simp[bne_iff_ne]
def parts(N:Nat)(f:Nat→Nat):Nat:=((List.range N).filter (first f)).length
theorem yf(N:Nat)(f:Nat→Nat):parts N f≤N:=by
 have:=length_filter_le (first f) (List.range N)
 rw[length_range]at this
 exact this
theorem cS(f:Nat→Nat):∀ N,((List.range N).map f).eraseDups.length=parts N f
 |0=>rfl
 |N+1=>by
  unfold parts
  rw[range_succ,map_append,List.eraseDups_append,length_append,cS f N,filter_append,length_append]
  congr 1
  by_cases h:first f N=true
  ·rw[List.filter_cons_of_pos h]
   have:([N].map f).removeAll ((List.range N).map f)=[f N]:=by
    simp only[map_cons,map_nil,List.removeAll]
    rw[List.filter_cons_of_pos]
    ·rfl
    ·simp only[Bool.not_eq_true',List.elem_eq_contains,contains_eq_mem,decide_eq_false_iff_not,mem_map,mem_range]
     rintro⟨y,hy,e⟩
     exact first_iff.mp h y hy e
   rw[this]
   rfl
  ·rw[List.filter_cons_of_neg h]
   have:([N].map f).removeAll ((List.range N).map f)=[]:=by
    simp only[map_cons,map_nil,List.removeAll]
    rw[List.filter_cons_of_neg]
    ·rfl
    ·simp only[Bool.not_eq_true',List.elem_eq_contains,contains_eq_mem,decide_eq_false_iff_not,mem_map,mem_range]
     intro q
     exact h (first_iff.mpr fun y hy e=>q ⟨y,hy,e⟩)
   rw[this]
   rfl
theorem rZ(f:Nat→Nat):∀ x,∃ y,y≤x∧f y=f x∧first f y=true:=by
 intro x
 induction x using Nat.strongRecOn with
 |_ x ih=>
  by_cases h:first f x=true
  ·exact⟨x,le_refl _,rfl,h⟩
  ·have:∃ y,y<x∧f y=f x:=Classical.byContradiction fun q=>h (first_iff.mpr fun y hy e=>q ⟨y,hy,e⟩)
   obtain⟨y,hy,e⟩:=this
   obtain⟨z,hz,e2,h2⟩:=ih y hy
   exact⟨z,by omega,e2.trans e,h2⟩
theorem eI{N:Nat}{f g:Nat→Nat}(h:∀ x y,x<N→y<N→g x=g y→f x=f y):parts N f≤parts N g∧(parts N f=parts N g→∀ x y,x<N→y<N→f x=f y→g x=g y):=by
 have sub:List.Sublist ((List.range N).filter (first f)) ((List.range N).filter (first g)):=by
  have e:(List.range N).filter (first f)=((List.range N).filter (first g)).filter (first f):=by
   rw[List.filter_filter]
   refine filter_congr fun x hx=>?_
   have hx:=mem_range.mp hx
   cases hf:first f x with
   |false=>rfl
   |true=>
    have:first g x=true:=first_iff.mpr fun y hy e=>first_iff.mp hf y hy (h y x (by omega) hx e)
    rw[this];rfl
  rw[e]
  exact filter_sublist
 refine⟨sub.length_le,fun he x y hx hy e=>?_⟩
 have eq:=sub.eq_of_length he
 have up:∀ z,z<N→first g z=true→first f z=true:=by
  intro z hz hg
  have:z∈(List.range N).filter (first g):=mem_filter.mpr ⟨mem_range.mpr hz,hg⟩
  rw[← eq]at this
  exact(mem_filter.mp this).2
 obtain⟨x0,h1,h2,h3⟩:=rZ g x
 obtain⟨y0,h4,h5,h6⟩:=rZ g y
 have fx:=up x0 (by omega) h3
 have fy:=up y0 (by omega) h6
 have e1:=h x0 x (by omega) hx h2
 have e2:=h y0 y (by omega) hy h5
 have e3:f x0=f y0:=by rw[e1,e2,e]
 rcases lt_trichotomy x0 y0 with q|q|q
 ·exact absurd e3 (first_iff.mp fy x0 q)
 ·rw[← h2,← h5,q]
 ·exact absurd e3.symm (first_iff.mp fx y0 q)
theorem pW{N:Nat}{f g:Nat→Nat}(h:∀ x y,x<N→y<N→g x=g y→f x=f y):parts N f=parts N g↔∀ x y,x<N→y<N→f x=f y→g x=g y:=by
 refine⟨(eI h).2,fun q=>le_antisymm (eI h).1 (eI q).1⟩
theorem Ref.rest_iff{N:Nat}{nb:Nat→List Nat}{a:Nat→Nat→Nat}(ha:Ref N nb a)(k:Nat):parts N (a k)=parts N (a (k+1))↔dH N a k:=
 pW fun _ _ hx hy=>ha.down hx hy
theorem Ref.ends{N:Nat}{nb:Nat→List Nat}{a:Nat→Nat→Nat}(ha:Ref N nb a)(hN:0<N):∃ k,k<N∧dH N a k:=by
 refine Classical.byContradiction fun q=>?_
 have grow:∀ k,k≤N→k+1≤parts N (a k):=by
  intro k
  induction k with
  |zero=>
   intro _
   have:first (a 0) 0=true:=first_iff.mpr fun y hy=>by omega
   have hm:0∈(List.range N).filter (first (a 0)):=mem_filter.mpr ⟨mem_range.mpr hN,this⟩
   exact length_pos_of_mem hm
  |succ k ih=>
   intro hk
   have h1:=ih (by omega)
   have h2:=(eI (N:=N) (f:=a k) (g:=a (k+1)) fun _ _ hx hy=>ha.down hx hy).1
   have h3:parts N (a k)≠parts N (a (k+1)):=fun e=>q ⟨k,by omega,(ha.rest_iff k).mp e⟩
   omega
 have:=grow N (le_refl _)
 have:=yf N (a N)
 omega
theorem Ref.far{N:Nat}{nb:Nat→List Nat}{a:Nat→Nat→Nat}(ha:Ref N nb a){j i:Nat}(hj:N≤j)(hi:N≤i){x y:Nat}(hx:x<N)(hy:y<N):a j x=a j y↔a i x=a i y:=by
 obtain⟨k,hk,hr⟩:=ha.ends (by omega)
 have h1:=ha.stay hr (j - k) x y hx hy
 have h2:=ha.stay hr (i - k) x y hx hy
 rw[show k+(j - k)=j by omega]at h1
 rw[show k+(i - k)=i by omega]at h2
 rw[h1,h2]
theorem Ref.rest_far{N:Nat}{nb:Nat→List Nat}{a:Nat→Nat→Nat}(ha:Ref N nb a){k j:Nat}(hr:dH N a k)(hj:N≤j){x y:Nat}(hx:x<N)(hy:y<N):a k x=a k y↔a j x=a j y:=by
 have h1:=ha.stay hr (k+j) x y hx hy
 rw[← h1]
 exact ha.far (by omega) hj hx hy
def uc(G H:Graph)(k x:Nat):Nat:=if x<G.n then c1 G H k x else c2 G H k (x - G.n)
def un(G H:Graph)(x:Nat):List Nat:=if x<G.n then near G x else(near H (x - G.n)).map (· +G.n)
def usign(G H:Graph)(k x:Nat):List Nat:=uc G H k x::(List.range (G.n+H.n)).map fun z=>(un G H x).countP fun w=>uc G H k w==z
theorem xH{G H:Graph}{x y:Nat}(h:y∈un G H x):y<G.n+H.n:=by
 unfold un at h
 by_cases hx:x<G.n
 ·rw[if_pos hx]at h
  have:=(mem_near.mp h).1
  omega
 ·rw[if_neg hx]at h
  obtain⟨v,hv,rfl⟩:=mem_map.mp h
  have:=(mem_near.mp hv).1
  omega
theorem kO{G H:Graph}(k:Nat){x:Nat}(hx:x<G.n):usign G H k x=sign G (colours G H k).1 (G.n+H.n) x:=by
 unfold usign sign
 congr 1
 ·unfold uc;rw[if_pos hx]
 ·refine map_congr_left fun z _=>?_
  unfold un;rw[if_pos hx]
  refine countP_congr fun w hw=>?_
  have:=(mem_near.mp hw).1
  unfold uc;rw[if_pos this]
theorem jF{G H:Graph}(k:Nat){x:Nat}(hx:¬ x<G.n):usign G H k x=sign H (colours G H k).2 (G.n+H.n) (x - G.n):=by
 unfold usign sign
 congr 1
 ·unfold uc;rw[if_neg hx]
 ·refine map_congr_left fun z _=>?_
  unfold un;rw[if_neg hx,countP_map]
  refine countP_congr fun w hw=>?_
  show(uc G H k (w+G.n)==z)=true↔_
  unfold uc;rw[if_neg (by omega),show w+G.n - G.n=w by omega]
theorem fW(G H:Graph)(k:Nat):signs G H k=(List.range (G.n+H.n)).map (usign G H k):=by
 unfold signs points
 rw[List.range_add,map_append,map_map]
 congr 1
 ·refine map_congr_left fun x hx=>?_
  exact(kO k (mem_range.mp hx)).symm
 ·refine map_congr_left fun x hx=>?_
  show _=usign G H k (G.n+x)
  rw[jF k (by omega),show G.n+x - G.n=x by omega]
theorem pY{G H:Graph}(k:Nat){x:Nat}(hx:x<G.n+H.n):uc G H (k+1) x=(signs G H k).idxOf (usign G H k x):=by
 by_cases h:x<G.n
 ·rw[kO k h,← vj G H k h]
  unfold uc;rw[if_pos h]
 ·rw[jF k h,← vo G H k (by omega)]
  unfold uc;rw[if_neg h]
theorem zH{G H:Graph}(k:Nat){x:Nat}(hx:x<G.n+H.n):uc G H k x<G.n+H.n:=by
 cases k with
 |zero=>
  unfold uc
  split
  ·rw[gH];omega
  ·rw[kj];omega
 |succ k=>
  rw[pY k hx]
  have hm:usign G H k x∈signs G H k:=by
   rw[fW]
   exact mem_map.mpr ⟨x,mem_range.mpr hx,rfl⟩
  have:=idxOf_lt_length_of_mem hm
  rw[fW]at this
  simpa [fW]using this
theorem vY{l:List (List Nat)}{a b:List Nat}(ha:a∈l)(hb:b∈l)(h:l.idxOf a=l.idxOf b):a=b:=by
 have h1:=List.getElem_idxOf (idxOf_lt_length_of_mem ha)
 have h2:=List.getElem_idxOf (idxOf_lt_length_of_mem hb)
 rw[← h1,← h2]
 congr 1
theorem wC{G H:Graph}{k x y:Nat}(hx:x<G.n+H.n)(hy:y<G.n+H.n):usign G H k x=usign G H k y↔uc G H k x=uc G H k y∧∀ z,(un G H x).countP (fun w=>uc G H k w==z)=(un G H y).countP (fun w=>uc G H k w==z):=by
 unfold usign
 constructor
 ·intro h
  injection h with h1 h2
  refine⟨h1,fun z=>?_⟩
  by_cases hz:z<G.n+H.n
  ·have:=congrArg (fun l=>l[z]?) h2
   simp only[List.getElem?_map,List.getElem?_range hz]at this
   simpa using this
  ·have key:∀ x,(un G H x).countP (fun w=>uc G H k w==z)=0:=by
    intro x
    rw[countP_eq_zero]
    intro w hw q
    have:=zH k (xH hw)
    have:=eq_of_beq q
    omega
   rw[key,key]
 ·rintro⟨h1,h2⟩
  rw[h1]
  congr 1
  exact map_congr_left fun z _=>h2 z
theorem jd(G H:Graph):Ref (G.n+H.n) (un G H) (uc G H) where
 sub:=fun _ _ _ h=>xH h
 zero:=fun x y _ _=>by
  unfold uc
  split<;>split<;>(first|rw[gH]|rw[kj])<;>first|rw[gH]|rw[kj]
 succ:=fun k x y hx hy=>by
  have mx:usign G H k x∈signs G H k:=by rw[fW];exact mem_map.mpr ⟨x,mem_range.mpr hx,rfl⟩
  have my:usign G H k y∈signs G H k:=by rw[fW];exact mem_map.mpr ⟨y,mem_range.mpr hy,rfl⟩
  rw[pY k hx,pY k hy,← wC hx hy]
  exact⟨fun h=>vY mx my h,fun h=>by rw[h]⟩
theorem fh{G H:Graph}{k x:Nat}(h:x<G.n):uc G H k x=c1 G H k x:=by unfold uc;rw[if_pos h]
theorem sv{G H:Graph}{k x:Nat}:uc G H k (G.n+x)=c2 G H k x:=by unfold uc;rw[if_neg (by omega),show G.n+x - G.n=x by omega]
theorem vB{G H:Graph}{x:Nat}(h:x<G.n):un G H x=near G x:=by unfold un;rw[if_pos h]
theorem kS(G H:Graph):Ref G.n (near G) (c1 G H) where
 sub:=fun _ _ _ h=>(mem_near.mp h).1
 zero:=fun x y _ _=>by rw[gH,gH]
 succ:=fun k x y hx hy=>by
  have h:=(jd G H).succ k x y (by omega) (by omega)
  rw[fh hx,fh hy,fh hx,fh hy,vB hx,vB hy]at h
  rw[h]
  have key:∀ x z,(near G x).countP (fun w=>uc G H k w==z)=(near G x).countP (fun w=>c1 G H k w==z):=fun x z=>
   countP_congr fun w hw=>by rw[fh (mem_near.mp hw).1]
  simp only[key]
theorem ie{n:Nat}{p:Nat→Bool}{u:Nat}(hu:u<n)(hp:p u=true):∃ v,(List.range n).find? p=some v∧p v=true∧v<n∧∀ w,w<v→p w=false:=by
 cases e:(List.range n).find? p with
 |none=>
  rw[List.find?_eq_none]at e
  exact absurd hp (e u (mem_range.mpr hu))
 |some v=>
  rw[List.find?_range_eq_some]at e
  exact⟨v,rfl,e.1,mem_range.mp e.2.1,fun w hw=>by have:=e.2.2 w hw;simpa using this⟩
theorem mE{G:Graph}{a:Nat→Nat→Nat}(ha:Ref G.n (near G) a){j:Nat}(hj:G.n≤j∨dH G.n a j){u:Nat}(hu:u<G.n):∃ v,(classesOf G)[u]?=some v∧v<G.n∧a j u=a j v∧∀ w,w<v→a j w≠a j u:=by
 have eqv:∀ x y,x<G.n→y<G.n→(a j x=a j y↔c1 G none_ G.n x=c1 G none_ G.n y):=by
  intro x y hx hy
  rcases hj with hj|hj
  ·rw[ha.far hj (le_refl _) hx hy]
   exact ha.same (kS G none_) G.n x y hx hy
  ·rw[ha.rest_far hj (le_refl _) hx hy]
   exact ha.same (kS G none_) G.n x y hx hy
 unfold classesOf points
 simp only[List.getElem?_map,List.getElem?_range hu,Option.map_some]
 obtain⟨v,e,h1,h2,h3⟩:=ie (p:=fun v=>c1 G none_ G.n u==c1 G none_ G.n v) hu (by simp)
 refine⟨v,?_,h2,(eqv u v hu h2).mpr (eq_of_beq h1),fun w hw q=>?_⟩
 ·exact congrArg (fun z=>some (Option.getD z u)) e
 ·have:=(eqv w u (by omega) hu).mp q
  have h4:=h3 w hw
  rw[this]at h4
  simp at h4
theorem jh(G:Graph):(classesOf G).length=G.n:=by simp[classesOf,points]
theorem nD{G:Graph}{a:Nat→Nat→Nat}(ha:Ref G.n (near G) a):dH G.n a (roundsOf G)∧∀ k,k<roundsOf G→¬ dH G.n a k:=by
 have hc:=kS G none_
 have eqv:∀ k,dH G.n a k↔dH G.n (c1 G none_) k:=by
  intro k
  constructor
  ·intro h x y hx hy e
   rw[← ha.same hc (k+1) x y hx hy]
   exact h x y hx hy ((ha.same hc k x y hx hy).mpr e)
  ·intro h x y hx hy e
   rw[ha.same hc (k+1) x y hx hy]
   exact h x y hx hy ((ha.same hc k x y hx hy).mp e)
 have test:∀ k,((colours G none_ k).1.eraseDups.length==(colours G none_ (k+1)).1.eraseDups.length)=true↔dH G.n (c1 G none_) k:=by
  intro k
  rw[← hc.rest_iff k,← cS,← cS,beq_iff_eq]
  have e:∀ k,(List.range G.n).map (c1 G none_ k)=(colours G none_ k).1:=by
   intro k
   have:=bT (colours G none_ k).1
   rw[(cK G none_ k).1]at this
   exact this.symm
  rw[e,e]
 have hex:∃ u,u<G.n+1∧dH G.n (c1 G none_) u:=by
  by_cases h0:0<G.n
  ·obtain⟨k,hk,hr⟩:=hc.ends h0
   exact⟨k,by omega,hr⟩
  ·exact⟨0,by omega,fun x y hx=>by omega⟩
 obtain⟨u,hu,hr⟩:=hex
 obtain⟨v,e,h1,h2,h3⟩:=ie (p:=fun k=>(colours G none_ k).1.eraseDups.length==(colours G none_ (k+1)).1.eraseDups.length) hu ((test u).mpr hr)
 have er:roundsOf G=v:=by
  unfold roundsOf
  exact congrArg (fun z=>Option.getD z 0) e
 rw[er]
 refine⟨(eqv v).mpr ((test v).mp h1),fun k hk q=>?_⟩
 have:=h3 k hk
 rw[(test k).mpr ((eqv k).mp q)]at this
 cases this
theorem jT{G:Graph}{a:Nat→Nat→Nat}(ha:Ref G.n (near G) a){k:Nat}(h1:dH G.n a k)(h2:∀ j,j<k→¬ dH G.n a j):roundsOf G=k:=by
 obtain⟨q1,q2⟩:=nD ha
 rcases lt_trichotomy (roundsOf G) k with h|h|h
 ·exact absurd q1 (h2 _ h)
 ·exact h
 ·exact absurd h1 (q2 _ h)
theorem oW{G H:Graph}{a:Nat→Nat→Nat}(ha:Ref (G.n+H.n) (un G H) a){u v:Nat}(hu:u<G.n)(hv:v<H.n):
  (apartOf G u H v=none∧∀ k,a k u=a k (G.n+v))∨∃ k,apartOf G u H v=some k∧a k u≠a k (G.n+v)∧∀ j,j<k→a j u=a j (G.n+v):=by
 have hc:=jd G H
 have test:∀ k,((colours G H k).1.getD u 0 != (colours G H k).2.getD v 0)=true↔a k u≠a k (G.n+v):=by
  intro k
  have h:=ha.same hc k u (G.n+v) (by omega) (by omega)
  rw[fh hu,sv]at h
  rw[bne_iff_ne]
  exact⟨fun q z=>q (h.mp z),fun q z=>q (h.mpr z)⟩
 cases e:apartOf G u H v with
 |none=>
  left
  refine⟨rfl,?_⟩
  unfold apartOf at e
  rw[List.find?_eq_none]at e
  have small:∀ k,k<G.n+H.n+1→a k u=a k (G.n+v):=by
   intro k hk
   have:=e k (mem_range.mpr hk)
   refine Classical.byContradiction fun q=>this ((test k).mpr q)
  intro k
  by_cases hk:k<G.n+H.n+1
  ·exact small k hk
  ·exact(ha.far (j:=k) (i:=G.n+H.n) (by omega) (le_refl _) (by omega) (by omega)).mpr (small _ (by omega))
 |some k=>
  right
  unfold apartOf at e
  rw[List.find?_range_eq_some]at e
  refine⟨k,rfl,(test k).mp e.1,fun j hj=>?_⟩
  have:=e.2.2 j hj
  refine Classical.byContradiction fun q=>?_
  have h2:=(test j).mpr q
  rw[h2]at this
  cases this
theorem l8{G H:Graph}{a:Nat→Nat→Nat}(ha:Ref (G.n+H.n) (un G H) a){j:Nat}(hj:G.n+H.n≤j∨dH (G.n+H.n) a j):
  refinedOf G H=true↔G.n=H.n∧∀ x,x<G.n+H.n→(List.range G.n).countP (fun u=>a j u==a j x)=(List.range H.n).countP (fun v=>a j (G.n+v)==a j x):=by
 have hc:=jd G H
 have eqv:∀ x y,x<G.n+H.n→y<G.n+H.n→(a j x=a j y↔uc G H (G.n+H.n) x=uc G H (G.n+H.n) y):=by
  intro x y hx hy
  rcases hj with hj|hj
  ·rw[ha.far hj (le_refl _) hx hy]
   exact ha.same hc _ x y hx hy
  ·rw[ha.rest_far hj (le_refl _) hx hy]
   exact ha.same hc _ x y hx hy
 have l1:∀ z,(colours G H (G.n+H.n)).1.countP (fun x=>x==z)=(List.range G.n).countP (fun u=>uc G H (G.n+H.n) u==z):=by
  intro z
  conv=>lhs;rw[bT (colours G H (G.n+H.n)).1]
  rw[countP_map,(cK G H (G.n+H.n)).1]
  refine countP_congr fun w hw=>?_
  show(c1 G H (G.n+H.n) w==z)=true↔_
  rw[fh (mem_range.mp hw)]
 have l2:∀ z,(colours G H (G.n+H.n)).2.countP (fun x=>x==z)=(List.range H.n).countP (fun v=>uc G H (G.n+H.n) (G.n+v)==z):=by
  intro z
  conv=>lhs;rw[bT (colours G H (G.n+H.n)).2]
  rw[countP_map,(cK G H (G.n+H.n)).2]
  refine countP_congr fun w hw=>?_
  show(c2 G H (G.n+H.n) w==z)=true↔_
  rw[sv]
 have k1:∀ x,x<G.n+H.n→(List.range G.n).countP (fun u=>a j u==a j x)=(List.range G.n).countP (fun u=>uc G H (G.n+H.n) u==uc G H (G.n+H.n) x):=by
  intro x hx
  refine countP_congr fun w hw=>?_
  have:=mem_range.mp hw
  simp only[beq_iff_eq]
  exact eqv w x (by omega) hx
 have k2:∀ x,x<G.n+H.n→(List.range H.n).countP (fun v=>a j (G.n+v)==a j x)=(List.range H.n).countP (fun v=>uc G H (G.n+H.n) (G.n+v)==uc G H (G.n+H.n) x):=by
  intro x hx
  refine countP_congr fun w hw=>?_
  have:=mem_range.mp hw
  simp only[beq_iff_eq]
  exact eqv (G.n+w) x (by omega) hx
 unfold refinedOf
 rw[Bool.and_eq_true,all_eq_true,beq_iff_eq]
 constructor
 ·rintro⟨h1,h2⟩
  refine⟨h1,fun x hx=>?_⟩
  rw[k1 x hx,k2 x hx,← l1,← l2]
  exact eq_of_beq (h2 _ (mem_range.mpr (zH _ hx)))
 ·rintro⟨h1,h2⟩
  refine⟨h1,fun z _=>?_⟩
  rw[beq_iff_eq,l1,l2]
  by_cases hz:∃ x,x<G.n+H.n∧uc G H (G.n+H.n) x=z
  ·obtain⟨x,hx,rfl⟩:=hz
   rw[← k1 x hx,← k2 x hx]
   exact h2 x hx
  ·rw[countP_eq_zero.mpr fun w hw q=>hz ⟨w,by have:=mem_range.mp hw;omega,eq_of_beq q⟩]
   rw[countP_eq_zero.mpr fun w hw q=>hz ⟨G.n+w,by have:=mem_range.mp hw;omega,eq_of_beq q⟩]
def val(l:List Nat):Nat:=l.foldl (fun a b=>a*2+b) 0
def fC(l:List Nat):Prop:=∀ x∈l,x≤1
theorem xB(l:List Nat):∀ a,l.foldl (fun a b=>a*2+b) a=a*2 ^ l.length+val l:=by
 unfold val
 induction l with
 |nil=>intro a;simp
 |cons b l ih=>
  intro a
  rw[foldl_cons,foldl_cons,ih (a*2+b),ih (0*2+b),length_cons,pow_succ,add_mul,mul_assoc,mul_comm 2 (2 ^ l.length),Nat.zero_mul,zero_add]
  omega
theorem fE(b:Nat)(l:List Nat):val (b::l)=b*2 ^ l.length+val l:=by
 have:=xB l (0*2+b)
 unfold val at this ⊢
 rw[foldl_cons,this]
 simp
theorem yh(l:List Nat)(b:Nat):val (l++[b])=val l*2+b:=by
 unfold val
 rw[List.foldl_append]
 rfl
theorem mz:∀{l:List Nat},fC l→val l<2 ^ l.length
 |[],_=>by simp[val]
 |b::l,h=>by
  rw[fE,length_cons,pow_succ]
  have h1:=mz (l:=l) fun x hx=>h x (mem_cons_of_mem _ hx)
  have h2:=h b mem_cons_self
  have h3:b*2 ^ l.length≤1*2 ^ l.length:=Nat.mul_le_mul_right _ h2
  omega
theorem k8:∀{a b:List Nat},fC a→fC b→a.length=b.length→(before a b=true↔val a<val b)
 |[],[],_,_,_=>by simp[before,val]
 |x::a,y::b,ha,hb,hl=>by
  have hl':a.length=b.length:=by simpa using hl
  have ba:fC a:=fun z hz=>ha z (mem_cons_of_mem _ hz)
  have bb:fC b:=fun z hz=>hb z (mem_cons_of_mem _ hz)
  have ih:=k8 ba bb hl'
  have h1:=mz ba
  have h2:=mz bb
  rw[hl']at h1
  have hx:=ha x mem_cons_self
  have hy:=hb y mem_cons_self
  rw[fE,fE,hl']
  unfold before
  rw[Bool.or_eq_true,Bool.and_eq_true,decide_eq_true_iff,beq_iff_eq,ih]
  have hx':x=0∨x=1:=by omega
  have hy':y=0∨y=1:=by omega
  rcases hx' with rfl|rfl<;>rcases hy' with rfl|rfl<;>omega
 |[],_::_,_,_,hl=>by simp at hl
 |_::_,[],_,_,hl=>by simp at hl
theorem o5:∀{a b:List Nat},fC a→fC b→a.length=b.length→val a=val b→a=b
 |[],[],_,_,_,_=>rfl
 |x::a,y::b,ha,hb,hl,e=>by
  have hl':a.length=b.length:=by simpa using hl
  have ba:fC a:=fun z hz=>ha z (mem_cons_of_mem _ hz)
  have bb:fC b:=fun z hz=>hb z (mem_cons_of_mem _ hz)
  have h1:=mz ba
  have h2:=mz bb
  rw[hl']at h1
  have hx:=ha x mem_cons_self
  have hy:=hb y mem_cons_self
  rw[fE,fE,hl']at e
  have hx':x=0∨x=1:=by omega
  have hy':y=0∨y=1:=by omega
  have hxy:x=y∧val a=val b:=by
   rcases hx' with rfl|rfl<;>rcases hy' with rfl|rfl<;>omega
  rw[hxy.1,o5 ba bb hl' hxy.2]
 |[],_::_,_,_,hl,_=>by simp at hl
 |_::_,[],_,_,hl,_=>by simp at hl
def cF(G:Graph)(p:List Nat)(v:Nat):List Nat:=p.map fun u=>if edge G u v=true then 1 else 0
theorem iC(G:Graph)(p:List Nat)(v:Nat):fC (cF G p v):=by
 intro x hx
 obtain⟨u,_,rfl⟩:=mem_map.mp hx
 split<;>omega
theorem ki(G:Graph)(p:List Nat)(v:Nat):(cF G p v).length=p.length:=length_map ..
def nexts(G:Graph)(k:Nat):List (List Nat×List Nat):=
 (leasts G k).flatMap fun p=>((points G).filter fun v=> !p.contains v).map fun v=>(cF G p v,p++[v])
def gZ(l:List (List Nat×List Nat)):List Nat:=l.foldl (fun b x=>if before x.1 b=true then x.1 else b) ((l.headD ([],[])).1)
theorem gx(G:Graph)(k:Nat):leasts G (k+1)=((nexts G k).filter fun x=>x.1==gZ (nexts G k)).map fun x=>x.2:=rfl
theorem mem_nexts{G:Graph}{k:Nat}{x:List Nat×List Nat}:x∈nexts G k↔∃ p v,p∈leasts G k∧v<G.n∧v∉p∧x=(cF G p v,p++[v]):=by
 unfold nexts points
 rw[mem_flatMap]
 constructor
 ·rintro⟨p,hp,h⟩
  obtain⟨v,hv,e⟩:=mem_map.mp h
  rw[mem_filter]at hv
  refine⟨p,v,hp,mem_range.mp hv.1,?_,e.symm⟩
  simpa [contains_eq_mem]using hv.2
 ·rintro⟨p,v,hp,hv,hn,e⟩
  refine⟨p,hp,mem_map.mpr ⟨v,mem_filter.mpr ⟨mem_range.mpr hv,?_⟩,e.symm⟩⟩
  simpa [contains_eq_mem]using hn
theorem nJ{k:Nat}:∀(l:List (List Nat×List Nat)) (b:List Nat),(∀ x∈l,fC x.1∧x.1.length=k)→fC b→b.length=k→
  (let r:=l.foldl (fun b x=>if before x.1 b=true then x.1 else b) b
   fC r∧r.length=k∧val r≤val b∧(∀ x∈l,val r≤val x.1)∧(r=b∨∃ x∈l,r=x.1))
 |[],b,_,hb,hk=>⟨hb,hk,le_refl _,(fun x hx=>by cases hx),.inl rfl⟩
 |y::l,b,h,hb,hk=>by
  have hy:=h y mem_cons_self
  have hb':fC (if before y.1 b=true then y.1 else b):=by split;exact hy.1;exact hb
  have hk':(if before y.1 b=true then y.1 else b).length=k:=by split;exact hy.2;exact hk
  have ih:=nJ l (if before y.1 b=true then y.1 else b) (fun x hx=>h x (mem_cons_of_mem _ hx)) hb' hk'
  show(let r:=l.foldl (fun b x=>if before x.1 b=true then x.1 else b) (if before y.1 b=true then y.1 else b)
   fC r∧r.length=k∧val r≤val b∧(∀ x∈y::l,val r≤val x.1)∧(r=b∨∃ x∈y::l,r=x.1))
  obtain⟨i1,i2,i3,i4,i5⟩:=ih
  have bv:=k8 hy.1 hb (by rw[hy.2,hk])
  refine⟨i1,i2,?_,?_,?_⟩
  ·refine le_trans i3 ?_
   split
   ·rename_i q;exact le_of_lt (bv.mp q)
   ·exact le_refl _
  ·intro x hx
   rcases mem_cons.mp hx with rfl|hx
   ·refine le_trans i3 ?_
    split
    ·exact le_refl _
    ·rename_i q
     exact Nat.le_of_not_lt fun z=>q (bv.mpr z)
   ·exact i4 x hx
  ·rcases i5 with e|⟨x,hx,e⟩
   ·rw[e]
    split
    ·exact .inr ⟨y,mem_cons_self,rfl⟩
    ·exact .inl rfl
   ·exact .inr ⟨x,mem_cons_of_mem _ hx,e⟩
theorem bK{G:Graph}:∀{k:Nat} {p:List Nat},p∈leasts G k→p.length=k
 |0,p,h=>by simp[leasts]at h;subst h;rfl
 |k+1,p,h=>by
  rw[gx]at h
  obtain⟨x,hx,rfl⟩:=mem_map.mp h
  obtain⟨q,v,hq,_,_,rfl⟩:=mem_nexts.mp (mem_filter.mp hx).1
  show(q++[v]).length=k+1
  rw[length_append,bK hq]
  rfl
theorem pb{G:Graph}{k:Nat}(hne:nexts G k≠[]):fC (gZ (nexts G k))∧(gZ (nexts G k)).length=k∧(∀ x∈nexts G k,val (gZ (nexts G k))≤val x.1)∧∃ x∈nexts G k,gZ (nexts G k)=x.1:=by
 have hall:∀ x∈nexts G k,fC x.1∧x.1.length=k:=by
  intro x hx
  obtain⟨p,v,hp,_,_,rfl⟩:=mem_nexts.mp hx
  exact⟨iC G p v,by rw[ki];exact bK hp⟩
 cases e:nexts G k with
 |nil=>exact absurd e hne
 |cons y l=>
  rw[e]at hall
  have hy:=hall y mem_cons_self
  have:=nJ (y::l) y.1 hall hy.1 hy.2
  obtain⟨i1,i2,i3,i4,i5⟩:=this
  refine⟨i1,i2,i4,?_⟩
  rcases i5 with q|q
  ·exact⟨y,mem_cons_self,q⟩
  ·exact q
theorem mem_leasts_succ{G:Graph}{k:Nat}{q:List Nat}:q∈leasts G (k+1)↔∃ p v,p∈leasts G k∧v<G.n∧v∉p∧q=p++[v]∧∀ p' v',p'∈leasts G k→v'<G.n→v'∉p'→val (cF G p v)≤val (cF G p' v'):=by
 rw[gx,mem_map]
 constructor
 ·rintro⟨x,hx,rfl⟩
  rw[mem_filter]at hx
  obtain⟨hm,hb⟩:=hx
  have hne:nexts G k≠[]:=by intro z;rw[z]at hm;cases hm
  obtain⟨b1,b2,b3,b4⟩:=pb hne
  obtain⟨p,v,hp,hv,hn,rfl⟩:=mem_nexts.mp hm
  refine⟨p,v,hp,hv,hn,rfl,fun p' v' hp' hv' hn'=>?_⟩
  have e:cF G p v=gZ (nexts G k):=eq_of_beq hb
  rw[e]
  exact b3 _ (mem_nexts.mpr ⟨p',v',hp',hv',hn',rfl⟩)
 ·rintro⟨p,v,hp,hv,hn,rfl,hmin⟩
  have hm:(cF G p v,p++[v])∈nexts G k:=mem_nexts.mpr ⟨p,v,hp,hv,hn,rfl⟩
  have hne:nexts G k≠[]:=by intro z;rw[z]at hm;cases hm
  obtain⟨b1,b2,b3,x,hx,b4⟩:=pb hne
  refine⟨_,mem_filter.mpr ⟨hm,?_⟩,rfl⟩
  obtain⟨p',v',hp',hv',hn',rfl⟩:=mem_nexts.mp hx
  have h1:=hmin p' v' hp' hv' hn'
  have h2:=b3 _ hm
  have e:cF G p v=gZ (nexts G k):=by
   refine o5 (iC _ _ _) b1 (by rw[ki,b2,bK hp]) ?_
   rw[b4]
   rw[b4]at h2
   exact le_antisymm h1 h2
  rw[beq_iff_eq]
  exact e
theorem dw{G:Graph}:∀{k:Nat} {p:List Nat},p∈leasts G k→p.Nodup∧∀ x∈p,x<G.n
 |0,p,h=>by simp[leasts]at h;subst h;exact⟨nodup_nil,fun x hx=>by cases hx⟩
 |k+1,p,h=>by
  obtain⟨q,v,hq,hv,hn,rfl,_⟩:=mem_leasts_succ.mp h
  obtain⟨i1,i2⟩:=dw hq
  refine⟨?_,?_⟩
  ·rw[nodup_append]
   refine⟨i1,by simp,fun a ha b hb=>?_⟩
   simp at hb
   subst hb
   intro e
   subst e
   exact hn ha
  ·intro x hx
   rcases mem_append.mp hx with hx|hx
   ·exact i2 x hx
   ·simp at hx;subst hx;exact hv
theorem jz{G:Graph}(fG:Fine G):∀{k:Nat} {p q:List Nat},p∈leasts G k→q∈leasts G k→∀ i j,i<k→j<k→edge G (p.getD i 0) (p.getD j 0)=edge G (q.getD i 0) (q.getD j 0)
 |0,_,_,_,_,i,_,hi,_=>by omega
 |k+1,p,q,hp,hq,i,j,hi,hj=>by
  obtain⟨p0,v,hp0,hv,hn,rfl,hmin⟩:=mem_leasts_succ.mp hp
  obtain⟨q0,w,hq0,hw,hm,rfl,hmin'⟩:=mem_leasts_succ.mp hq
  have lp:=bK hp0
  have lq:=bK hq0
  have er:cF G p0 v=cF G q0 w:=o5 (iC _ _ _) (iC _ _ _) (by rw[ki,ki,lp,lq]) (le_antisymm (hmin q0 w hq0 hw hm) (hmin' p0 v hp0 hv hn))
  have last:∀ i,i<k→edge G (p0.getD i 0) v=edge G (q0.getD i 0) w:=by
   intro i hi
   have:=congrArg (fun l=>l[i]?) er
   unfold cF at this
   simp only[List.getElem?_map]at this
   rw[List.getElem?_eq_getElem (by omega),List.getElem?_eq_getElem (by omega)]at this
   simp only[Option.map_some,Option.some.injEq]at this
   rw[getD_eq_getElem?_getD,getD_eq_getElem?_getD,List.getElem?_eq_getElem (by omega),List.getElem?_eq_getElem (by omega)]
   simp only[Option.getD_some]
   cases h1:edge G p0[i] v<;>cases h2:edge G q0[i] w<;>simp[h1,h2]at this<;>rfl
  have gp:∀ i,i<k→(p0++[v]).getD i 0=p0.getD i 0:=fun i hi=>aO _ _ (by omega)
  have gq:∀ i,i<k→(q0++[w]).getD i 0=q0.getD i 0:=fun i hi=>aO _ _ (by omega)
  have gpk:(p0++[v]).getD k 0=v:=by rw[← lp];exact a3 _ _ _
  have gqk:(q0++[w]).getD k 0=w:=by rw[← lq];exact a3 _ _ _
  by_cases h1:i<k
  ·by_cases h2:j<k
   ·rw[gp i h1,gp j h2,gq i h1,gq j h2]
    exact jz fG hp0 hq0 i j h1 h2
   ·have:j=k:=by omega
    subst this
    rw[gp i h1,gq i h1,gpk,gqk]
    exact last i h1
  ·have:i=k:=by omega
   subst this
   by_cases h2:j<i
   ·rw[gp j h2,gq j h2,gpk,gqk,fG.both,fG.both w]
    exact last j h2
   ·have:j=i:=by omega
    subst this
    rw[gpk,gqk,fG.none_,fG.none_]
theorem jq{G:Graph}:∀{k:Nat},k≤G.n→∃ p,p∈leasts G k
 |0,_=>⟨[],by simp[leasts]⟩
 |k+1,hk=>by
  obtain⟨p,hp⟩:=jq (G:=G) (k:=k) (by omega)
  have lp:=bK hp
  obtain⟨nd,lt⟩:=dw hp
  have hv:∃ v,v<G.n∧v∉p:=by
   refine Classical.byContradiction fun q=>?_
   have hsub:∀ x∈List.range G.n,x∈p:=fun x hx=>Classical.byContradiction fun z=>q ⟨x,mem_range.mp hx,z⟩
   have:(List.range G.n).length≤p.length:=by
    have h2:List.Perm (p.filter fun x=>(List.range G.n).contains x) (List.range G.n):=by
     refine(perm_ext_iff_of_nodup (List.Nodup.sublist filter_sublist nd) nodup_range).mpr fun a=>?_
     simp[contains_eq_mem]
     exact fun h=>hsub a (mem_range.mpr h)
    rw[← h2.length_eq]
    exact length_filter_le _ _
   rw[length_range]at this
   omega
  obtain⟨v,hv,hn⟩:=hv
  have hm:(cF G p v,p++[v])∈nexts G k:=mem_nexts.mpr ⟨p,v,hp,hv,hn,rfl⟩
  have hne:nexts G k≠[]:=by intro z;rw[z]at hm;cases hm
  obtain⟨_,_,_,x,hx,e⟩:=pb hne
  refine⟨x.2,?_⟩
  rw[gx]
  exact mem_map.mpr ⟨x,mem_filter.mpr ⟨hx,by rw[e];simp⟩,rfl⟩
theorem rC{G:Graph}(fG:Fine G){p:List Nat}(hp:p∈leasts G G.n):formOf G=drawn G.n fun a b=>edge G (p.getD a 0) (p.getD b 0):=by
 unfold formOf
 refine sf fun u v hu hv=>?_
 have hm:(leasts G G.n).headD []∈leasts G G.n:=by
  cases e:leasts G G.n with
  |nil=>rw[e]at hp;cases hp
  |cons a l=>exact mem_cons_self
 exact jz fG hm hp u v hu hv
inductive Form:List Int→Call→List Int→Prop
 |init (t):Form (0::t) .init t
 |graph (g n t):Form (1::g::n::t) (.graph g n) t
 |edge (g u v on t):Form (2::g::u::v::on::t) (.edge g u v on) t
 |degree (g u t):Form (3::g::u::t) (.degree g u) t
 |turn (g t):Form (4::g::t) (.turn g) t
 |settle (g t):Form (5::g::t) (.settle g) t
 |classes (g m t):Form (6::g::m::t) (.classes g m) t
 |rounds (g t):Form (7::g::t) (.rounds g) t
 |apart (u v t):Form (8::u::v::t) (.apart u v) t
 |refined (t):Form (9::t) .refined t
 |same (m t):Form (10::m::t) (.same m) t
 |movings (g t):Form (11::g::t) (.movings g) t
 |orbits (g m t):Form (12::g::m::t) (.orbits g m) t
 |walks (g k t):Form (13::g::k::t) (.walks g k) t
 |circles (g k t):Form (14::g::k::t) (.circles g k) t
 |trees (g:Int) (l t:List Int):l.length≤15→(∀ z∈l,0≤z∧z≤255)→Form (15::g::(l.length:Int)::(l++t)) (.trees g (l.map Int.toNat) l.length) t
def said(a:Ans):List Int:=a.value::a.numbers.map fun(x:Nat)=>(x:Int)
def tZ(s:Abs):Call→Prop
 | .settle g=>(s.at_ g).n≤7
 |_=>True
inductive Line:Nat→List Int→Abs→List Int→Prop
 |nil (k s):Line k [] s []
 |cons {k rest s q t out}:Form rest q t→tZ s q→Line k t (does s q).1 out→Line (k+1) rest s (((said (does s q).2).length:Int)::(said (does s q).2++out))
theorem uO{p:Int}{r:List Int}{c:List (List Int)}{t:List Int}(h:PyFlat.call PyRc81.shape (p::r)=some (c,t))(ha:Rc81Neutral.asked1 (PyRc81.whole c)=true):
  ∃ q,Form (p::r) q t∧(∀ s,Rc81Neutral.step s (PyRc81.whole c)=((does s q).1,said (does s q).2))∧(∀ s,Rc81Neutral.small s (PyRc81.whole c)=true→tZ s q)∧(PyRc81.whole c=[[0]]→p=0):=by
 unfold PyFlat.call at h
 simp only at h
 have zero:∀{n:Nat},PyRc81.shape p=some (n,0)→n≤r.length∧c=[p::r.take n]∧t=r.drop n:=by
  intro n e
  rw[e]at h
  simp only at h
  by_cases hl:r.length<n
  ·rw[if_pos hl]at h;cases h
  ·rw[if_neg hl]at h
   simp only[PyFlat.rows,Option.some.injEq,Prod.mk.injEq]at h
   exact⟨by omega,h.1.symm,h.2.symm⟩
 have sh:PyRc81.shape p≠none:=by
  intro e
  rw[e]at h
  simp at h
 by_cases p0:p=0
 ·subst p0
  obtain⟨hl,rfl,rfl⟩:=zero (n:=0) (by decide)
  exact⟨.init,.init _,fun s=>rfl,fun s _=>trivial,fun _=>rfl⟩
 by_cases p1:p=1
 ·subst p1
  obtain⟨hl,rfl,rfl⟩:=zero (n:=2) (by decide)
  match r,hl with
  |g::n::t,_=>exact⟨.graph g n,.graph _ _ _,fun s=>rfl,fun s _=>trivial,(fun h=>absurd (show(1:Int)=0 from congrArg (fun z=>(z.headD []).headD 0) h) (by decide))⟩
 by_cases p2:p=2
 ·subst p2
  obtain⟨hl,rfl,rfl⟩:=zero (n:=4) (by decide)
  match r,hl with
  |g::u::v::on::t,_=>exact⟨.edge g u v on,.edge _ _ _ _ _,fun s=>rfl,fun s _=>trivial,(fun h=>absurd (show(2:Int)=0 from congrArg (fun z=>(z.headD []).headD 0) h) (by decide))⟩
 by_cases p3:p=3
 ·subst p3
  obtain⟨hl,rfl,rfl⟩:=zero (n:=2) (by decide)
  match r,hl with
  |g::n::t,_=>exact⟨.degree g n,.degree _ _ _,fun s=>rfl,fun s _=>trivial,(fun h=>absurd (show(3:Int)=0 from congrArg (fun z=>(z.headD []).headD 0) h) (by decide))⟩
 by_cases p4:p=4
 ·subst p4
  obtain⟨hl,rfl,rfl⟩:=zero (n:=1) (by decide)
  match r,hl with
  |g::t,_=>exact⟨.turn g,.turn _ _,fun s=>rfl,fun s _=>trivial,(fun h=>absurd (show(4:Int)=0 from congrArg (fun z=>(z.headD []).headD 0) h) (by decide))⟩
 by_cases p5:p=5
 ·subst p5
  obtain⟨hl,rfl,rfl⟩:=zero (n:=1) (by decide)
  match r,hl with
  |g::t,_=>exact⟨.settle g,.settle _ _,fun s=>rfl,fun s h=>(of_decide_eq_true h:(Rc81.Abs.at_ s g).n≤7),(fun h=>absurd (show(5:Int)=0 from congrArg (fun z=>(z.headD []).headD 0) h) (by decide))⟩
 by_cases p6:p=6
 ·subst p6
  obtain⟨hl,rfl,rfl⟩:=zero (n:=2) (by decide)
  match r,hl with
  |g::n::t,_=>exact⟨.classes g n,.classes _ _ _,fun s=>rfl,fun s _=>trivial,(fun h=>absurd (show(6:Int)=0 from congrArg (fun z=>(z.headD []).headD 0) h) (by decide))⟩
 by_cases p7:p=7
 ·subst p7
  obtain⟨hl,rfl,rfl⟩:=zero (n:=1) (by decide)
  match r,hl with
  |g::t,_=>exact⟨.rounds g,.rounds _ _,fun s=>rfl,fun s _=>trivial,(fun h=>absurd (show(7:Int)=0 from congrArg (fun z=>(z.headD []).headD 0) h) (by decide))⟩
 by_cases p8:p=8
 ·subst p8
  obtain⟨hl,rfl,rfl⟩:=zero (n:=2) (by decide)
  match r,hl with
  |g::n::t,_=>exact⟨.apart g n,.apart _ _ _,fun s=>rfl,fun s _=>trivial,(fun h=>absurd (show(8:Int)=0 from congrArg (fun z=>(z.headD []).headD 0) h) (by decide))⟩
 by_cases p9:p=9
 ·subst p9
  obtain⟨hl,rfl,rfl⟩:=zero (n:=0) (by decide)
  exact⟨.refined,.refined _,fun s=>rfl,fun s _=>trivial,(fun h=>absurd (show(9:Int)=0 from congrArg (fun z=>(z.headD []).headD 0) h) (by decide))⟩
 by_cases p10:p=10
 ·subst p10
  obtain⟨hl,rfl,rfl⟩:=zero (n:=1) (by decide)
  match r,hl with
  |g::t,_=>exact⟨.same g,.same _ _,fun s=>rfl,fun s _=>trivial,(fun h=>absurd (show(10:Int)=0 from congrArg (fun z=>(z.headD []).headD 0) h) (by decide))⟩
 by_cases p11:p=11
 ·subst p11
  obtain⟨hl,rfl,rfl⟩:=zero (n:=1) (by decide)
  match r,hl with
  |g::t,_=>exact⟨.movings g,.movings _ _,fun s=>rfl,fun s _=>trivial,(fun h=>absurd (show(11:Int)=0 from congrArg (fun z=>(z.headD []).headD 0) h) (by decide))⟩
 by_cases p12:p=12
 ·subst p12
  obtain⟨hl,rfl,rfl⟩:=zero (n:=2) (by decide)
  match r,hl with
  |g::n::t,_=>exact⟨.orbits g n,.orbits _ _ _,fun s=>rfl,fun s _=>trivial,(fun h=>absurd (show(12:Int)=0 from congrArg (fun z=>(z.headD []).headD 0) h) (by decide))⟩
 by_cases p13:p=13
 ·subst p13
  obtain⟨hl,rfl,rfl⟩:=zero (n:=2) (by decide)
  match r,hl with
  |g::n::t,_=>exact⟨.walks g n,.walks _ _ _,fun s=>rfl,fun s _=>trivial,(fun h=>absurd (show(13:Int)=0 from congrArg (fun z=>(z.headD []).headD 0) h) (by decide))⟩
 by_cases p14:p=14
 ·subst p14
  obtain⟨hl,rfl,rfl⟩:=zero (n:=2) (by decide)
  match r,hl with
  |g::n::t,_=>exact⟨.circles g n,.circles _ _ _,fun s=>rfl,fun s _=>trivial,(fun h=>absurd (show(14:Int)=0 from congrArg (fun z=>(z.headD []).headD 0) h) (by decide))⟩
 by_cases p15:p=15
 ·subst p15
  have e:PyRc81.shape 15=some (1,1):=by decide
  rw[e]at h
  simp only at h
  match r,h with
  |[],h=>simp at h
  |g::r',h=>
   rw[if_neg (by simp)]at h
   simp only[List.drop_succ_cons,List.drop_zero,PyFlat.rows]at h
   cases hr:PyFlat.row r' with
   |none=>rw[hr]at h;simp at h
   |some z=>
    rw[hr]at h
    simp only[Option.some.injEq,Prod.mk.injEq]at h
    obtain⟨rfl,rfl⟩:=h
    match r',hr with
    |[],hr=>simp[PyFlat.row]at hr
    |m::r'',hr=>
     simp only[PyFlat.row]at hr
     by_cases hm:0≤m∧m.toNat≤r''.length
     ·rw[if_pos hm]at hr
      simp only[Option.some.injEq]at hr
      subst hr
      have ha':Rc81Neutral.asked1 [[15,g,((r''.take m.toNat).length:Int)],r''.take m.toNat]=true:=ha
      have hln:((r''.take m.toNat).length:Int)=m:=by rw[length_take,Nat.min_eq_left hm.2];omega
      unfold Rc81Neutral.asked1 at ha'
      simp only[Bool.and_eq_true,all_eq_true,decide_eq_true_iff]at ha'
      obtain⟨_,_,hb,hlen⟩:=ha'
      have hle:(r''.take m.toNat).length≤15:=by
       split at hlen<;>omega
      refine⟨.trees g ((r''.take m.toNat).map Int.toNat) ((r''.take m.toNat).length:Int),?_,fun s=>rfl,fun s _=>trivial,(fun h=>absurd (show(15:Int)=0 from congrArg (fun z=>(z.headD []).headD 0) h) (by decide))⟩
      have f:=Form.trees g (r''.take m.toNat) (r''.drop m.toNat) hle hb
      rw[take_append_drop,hln]at f
      rw[hln]
      exact f
     ·rw[if_neg hm]at hr;cases hr
 exfalso
 apply sh
 unfold PyRc81.shape
 simp[p0,p1,p2,p3,p4,p5,p6,p7,p8,p9,p10,p11,p12,p13,p14,p15]
theorem iU:∀(f:Nat) (l:List Int) (cs:List (List (List Int))) (s:Abs),PyFlat.calls PyRc81.shape f l=some cs→Rc81Neutral.goes s (cs.map PyRc81.whole)=true→Line cs.length l s (PyFlat.told (PyFlat.played Rc81Neutral.step s (cs.map PyRc81.whole)))
 |f,[],cs,s,h,_=>by
  have:cs=[]:=by cases f<;>simp[PyFlat.calls]at h<;>exact h
  subst this
  exact .nil _ _
 |0,p::r,cs,s,h,_=>by simp[PyFlat.calls]at h
 |f+1,p::r,cs,s,h,hg=>by
  unfold PyFlat.calls at h
  cases hc:PyFlat.call PyRc81.shape (p::r)with
  |none=>rw[hc]at h;simp at h
  |some x=>
   obtain⟨c,t⟩:=x
   rw[hc]at h
   simp only at h
   cases hcs:PyFlat.calls PyRc81.shape f t with
   |none=>rw[hcs]at h;simp at h
   |some cs'=>
    rw[hcs]at h
    simp only[Option.some.injEq]at h
    subst h
    rw[map_cons]at hg ⊢
    unfold Rc81Neutral.goes at hg
    simp only[Bool.and_eq_true]at hg
    obtain⟨ha,hs,hr⟩:=hg
    obtain⟨q,hf,hst,hsm,_⟩:=uO hc ha
    rw[hst s]at hr
    have ih:=iU f t cs' (does s q).1 hcs hr
    have l:=Line.cons hf (hsm s hs) ih
    have e:PyFlat.told (PyFlat.played Rc81Neutral.step s (PyRc81.whole c::cs'.map PyRc81.whole))=(((said (does s q).2).length:Int)::(said (does s q).2++PyFlat.told (PyFlat.played Rc81Neutral.step (does s q).1 (cs'.map PyRc81.whole)))):=by
     show((Rc81Neutral.step s (PyRc81.whole c)).2.length:Int)::_++_=_
     rw[hst s]
     rfl
    rw[length_cons,e]
    exact l
theorem tq{l:List Int}(h:PyRc81.answers_asked l=true):Line 400 l {} (PyRc81.answers l)∧∃ t,l=0::t:=by
 unfold PyRc81.answers_asked PyRc81.calls at h
 unfold PyRc81.answers PyRc81.calls
 cases hc:PyFlat.calls PyRc81.shape l.length l with
 |none=>rw[hc]at h;simp at h
 |some cs=>
  rw[hc]at h
  simp only[Bool.and_eq_true]at h
  obtain⟨_,h⟩:=h
  unfold Rc81Neutral.asked at h
  simp only[Bool.and_eq_true,decide_eq_true_iff,length_map]at h
  obtain⟨h1,h2,h3⟩:=h
  have hl:=iU l.length l cs {} hc h3
  constructor
  ·have mono:∀{k:Nat} {l:List Int} {s:Abs} {o:List Int},Line k l s o→∀ m,k≤m→Line m l s o:=by
    intro k l s o hh
    induction hh with
    |nil k s=>intro m _;exact .nil _ _
    |cons hf hs _ ih=>
     intro m hm
     match m,hm with
     |m+1,hm=>exact .cons hf hs (ih m (by omega))
   exact mono hl 400 h1
  ·cases cs with
   |nil=>simp at h2
   |cons c cs'=>
    simp at h2
    match l,hc with
    |[],hc=>simp[PyFlat.calls]at hc
    |p::r,hc=>
     unfold PyFlat.calls at hc
     simp only[length_cons]at hc
     cases hcc:PyFlat.call PyRc81.shape (p::r)with
     |none=>rw[hcc]at hc;simp at hc
     |some x=>
      obtain⟨c2,t⟩:=x
      rw[hcc]at hc
      simp only at hc
      cases hcs:PyFlat.calls PyRc81.shape r.length t with
      |none=>rw[hcs]at hc;simp at hc
      |some cs2=>
       rw[hcs]at hc
       simp only[Option.some.injEq,List.cons.injEq]at hc
       have e:=hc.1
       subst e
       rw[map_cons]at h3
       unfold Rc81Neutral.goes at h3
       simp only[Bool.and_eq_true]at h3
       obtain⟨q,hf,hst,_,h0⟩:=uO hcc h3.1
       have:=h0 h2
       subst this
       exact⟨r,rfl⟩
structure Good(s:Abs):Prop where
 fa:Fine s.a
 fb:Fine s.b
 na:s.a.n≤16
 nb:s.b.n≤16
theorem Good.at_{s:Abs}(h:Good s)(g:Int):Fine (s.at_ g)∧(s.at_ g).n≤16:=by
 unfold Abs.at_
 split
 ·exact⟨h.fa,h.na⟩
 ·exact⟨h.fb,h.nb⟩
theorem Good.put{s:Abs}(h:Good s)(g:Int){G:Graph}(hf:Fine G)(hn:G.n≤16):Good (s.put g G):=by
 unfold Abs.put
 split
 ·exact⟨hf,h.fb,hn,h.nb⟩
 ·exact⟨h.fa,hf,h.na,hn⟩
theorem k9:Good {}:=⟨lP,lP,zero_le _,zero_le _⟩
theorem rg{G:Graph}(h:Fine G):Fine (turned G):=eQ (fun u v _ _=>by
  rw[h.both u v,bne_comm]) fun u _=>by simp
theorem um(n:Nat):Fine (drawn n fun _ _=>false):=eQ (fun _ _ _ _=>rfl) fun _ _=>rfl
theorem wo{G:Graph}(h:Fine G){a b:Nat}(hab:a≠b)(on:Bool):Fine (drawn G.n fun x y=>if(x=a∧y=b)∨(x=b∧y=a)then on else edge G x y):=by
 refine eQ (fun u v _ _=>?_) fun u _=>?_
 ·by_cases h1:(u=a∧v=b)∨(u=b∧v=a)
  ·rw[if_pos h1,if_pos (by omega)]
  ·rw[if_neg h1,if_neg (by omega),h.both]
 ·rw[if_neg (by omega),h.none_]
theorem wg{G:Graph}(h:Fine G):Fine (formOf G):=eQ (fun u v _ _=>h.both _ _) fun u _=>h.none_ _
theorem wc{s:Abs}(h:Good s)(q:Call):Good (does s q).1:=by
 cases q with
 |init=>exact k9
 |graph g n=>
  simp only[does]
  split
  ·exact h
  ·rename_i hc
   have hc:(isWhich g&&upTo n MOST)=true:=by simpa using hc
   rw[Bool.and_eq_true]at hc
   have hu:=hc.2
   unfold upTo MOST at hu
   simp at hu
   exact h.put g (um _) (by show n.toNat≤16;omega)
 |edge g u v on=>
  simp only[does]
  split
  ·exact h
  ·rename_i hc
   have hc:(isWhich g&&(below u (s.at_ g).n&&(below v (s.at_ g).n&&u != v)))=true:=by simpa using hc
   simp only[Bool.and_eq_true,below,decide_eq_true_iff,bne_iff_ne]at hc
   exact h.put g (wo (h.at_ g).1 (by omega) _) (h.at_ g).2
 |turn g=>
  simp only[does]
  split
  ·exact h
  ·exact h.put g (rg (h.at_ g).1) (h.at_ g).2
 |settle g=>
  simp only[does]
  split
  ·exact h
  ·exact h.put g (wg (h.at_ g).1) (h.at_ g).2
 |degree g u=>simp only[does];split<;>exact h
 |classes g m=>simp only[does];split<;>exact h
 |rounds g=>simp only[does];split<;>exact h
 |apart u v=>simp only[does];split;exact h;split<;>exact h
 |refined=>exact h
 |same m=>simp only[does];split<;>exact h
 |movings g=>simp only[does];split<;>exact h
 |orbits g m=>simp only[does];split<;>exact h
 |walks g k=>simp only[does];split<;>exact h
 |circles g k=>simp only[does];split<;>exact h
 |trees g l n=>simp only[does];split<;>exact h
theorem cY(l:List Nat)(m:Int):(l.take (room_ m)).length≤16:=by
 rw[length_take]
 refine le_trans (Nat.min_le_left _ _) ?_
 unfold room_ MOST
 split<;>omega
theorem xU(s:Abs)(q:Call):(said (does s q).2).length≤17:=by
 unfold said
 rw[length_cons,length_map]
 have key:(does s q).2.numbers.length≤16:=by
  cases q with
  |init=>exact zero_le _
  |graph g n=>simp only[does];split<;>exact zero_le _
  |edge g u v on=>simp only[does];split<;>exact zero_le _
  |turn g=>simp only[does];split<;>exact zero_le _
  |settle g=>simp only[does];split<;>exact zero_le _
  |degree g u=>simp only[does];split<;>exact zero_le _
  |classes g m=>
   simp only[does]
   split
   ·exact zero_le _
   ·exact cY _ _
  |rounds g=>simp only[does];split<;>exact zero_le _
  |apart u v=>simp only[does];split;exact zero_le _;split<;>exact zero_le _
  |refined=>exact zero_le _
  |same m=>
   simp only[does]
   split
   ·exact cY _ _
   ·exact zero_le _
  |movings g=>
   simp only[does]
   split
   ·exact zero_le _
   ·show 1≤16;decide
  |orbits g m=>
   simp only[does]
   split
   ·exact zero_le _
   ·exact cY _ _
  |walks g k=>
   simp only[does]
   split
   ·exact zero_le _
   ·show 1≤16;decide
  |circles g k=>
   simp only[does]
   split
   ·exact zero_le _
   ·show 1≤16;decide
  |trees g l n=>
   simp only[does]
   split
   ·exact zero_le _
   ·show 1≤16;decide
 omega
theorem aW{α:Type}:∀{Y Z:List α},Y.Nodup→(∀ x∈Y,x∈Z)→Y.length≤Z.length
 |[],Z,_,_=>zero_le _
 |a::Y,Z,h,s=>by
  rw[nodup_cons]at h
  obtain⟨l,r,rfl⟩:=List.append_of_mem (s a mem_cons_self)
  have:=aW (Y:=Y) (Z:=l++r) h.2 fun x hx=>by
   have hm:=s x (mem_cons_of_mem _ hx)
   rw[mem_append,mem_cons]at hm
   rw[mem_append]
   rcases hm with hm|rfl|hm
   ·exact .inl hm
   ·exact absurd hx h.1
   ·exact .inr hm
  simp only[length_append,length_cons]at this ⊢
  omega
theorem iN{α:Type}:∀{Z Y:List α},Y.Nodup→(∀ x∈Y,x∈Z)→Z.length≤Y.length→Z.Nodup
 |[],Y,_,_,_=>nodup_nil
 |a::Z,Y,h,s,hl=>by
  have ha:a∉Z:=fun ha=>by
   have:=aW (Y:=Y) (Z:=Z) h fun x hx=>by
    rcases mem_cons.mp (s x hx)with rfl|q
    ·exact ha
    ·exact q
   simp at hl
   omega
  rw[nodup_cons]
  refine⟨ha,?_⟩
  by_cases hy:a∈Y
  ·obtain⟨l,r,rfl⟩:=List.append_of_mem hy
   have hp:(l++a::r).Perm (a::(l++r)):=List.perm_middle
   have hn:=hp.nodup_iff.mp h
   rw[nodup_cons]at hn
   refine iN (Y:=l++r) hn.2 (fun x hx=>?_) ?_
   ·have h1:x∈a::Z:=s x (hp.mem_iff.mpr (mem_cons_of_mem _ hx))
    rcases mem_cons.mp h1 with rfl|q
    ·exact absurd hx hn.1
    ·exact q
   ·simp only[length_append,length_cons]at hl ⊢
    omega
  ·have:=aW (Y:=Y) (Z:=Z) h fun x hx=>by
    rcases mem_cons.mp (s x hx)with rfl|q
    ·exact absurd hx hy
    ·exact q
   simp at hl
   omega
theorem tM{α:Type}{Y Z:List α}(h:Y.Nodup)(s:∀ x∈Y,x∈Z)(hl:Z.length≤Y.length){x:α}(hx:x∈Z):x∈Y:=by
 refine Classical.byContradiction fun q=>?_
 have:=aW (Y:=x::Y) (Z:=Z) (nodup_cons.mpr ⟨q,h⟩) fun y hy=>by
  rcases mem_cons.mp hy with rfl|q
  ·exact hx
  ·exact s y q
 simp at this
 omega
theorem a8{α β:Type}{f:α→β}:∀{l:List α},l.Nodup→(∀ u v,u∈l→v∈l→f u=f v→u=v)→(l.map f).Nodup
 |[],_,_=>nodup_nil
 |a::l,hd,hi=>by
  rw[map_cons,nodup_cons]
  rw[nodup_cons]at hd
  refine⟨fun hm=>?_,a8 hd.2 fun u v hu hv e=>hi u v (mem_cons_of_mem _ hu) (mem_cons_of_mem _ hv) e⟩
  obtain⟨b,hb,e⟩:=mem_map.mp hm
  exact hd.1 (hi b a (mem_cons_of_mem _ hb) mem_cons_self e▸hb)
theorem dW{α β:Type}{f:α→β}:∀{l:List α},(l.map f).Nodup→∀ u v,u∈l→v∈l→f u=f v→u=v
 |[],_,u,v,hu,_,_=>by cases hu
 |a::l,hd,u,v,hu,hv,e=>by
  rw[map_cons,nodup_cons]at hd
  rcases mem_cons.mp hu with h1|h1
  ·rcases mem_cons.mp hv with h2|h2
   ·rw[h1,h2]
   ·exact(hd.1 (mem_map.mpr ⟨v,h2,by rw[← e,h1]⟩)).elim
  ·rcases mem_cons.mp hv with h2|h2
   ·exact(hd.1 (mem_map.mpr ⟨u,h1,by rw[e,h2]⟩)).elim
   ·exact dW hd.2 u v h1 h2 e
theorem bJ{l:List Nat}(h:l.Pairwise (· < ·)):l.Nodup:=h.imp fun h=>ne_of_lt h
def Kinds{α:Type}(X:List α)(m:Nat):Prop:=∃ Y:List α,Y.Nodup∧(∀ x,x∈Y↔x∈X)∧Y.length=m
theorem Kinds.le{α:Type}{X:List α}{m:Nat}(h:Kinds X m):m≤X.length:=by
 obtain⟨Y,a,b,rfl⟩:=h
 exact aW a fun x hx=>(b x).mp hx
theorem Kinds.mono{L:List Nat}{c d:Nat→Int}{m n:Nat}(hc:Kinds (L.map c) m)(hd:Kinds (L.map d) n)(h:∀ p∈L,∀ q∈L,d p=d q→c p=c q):
  m≤n∧(m=n→∀ p∈L,∀ q∈L,c p=c q→d p=d q):=by
 obtain⟨Y,a,b,rfl⟩:=hc
 obtain⟨Z,a',b',rfl⟩:=hd
 have hx:∀ z:Int,∃ y:Int,∀ p∈L,d p=z→c p=y:=fun z=>by
  by_cases hz:∃ p∈L,d p=z
  ·obtain⟨p,hp,rfl⟩:=hz
   exact⟨c p,fun q hq e=>h q hq p hp e⟩
  ·exact⟨0,fun p hp e=>absurd ⟨p,hp,e⟩ hz⟩
 let t:Int→Int:=fun z=>Classical.choose (hx z)
 have ht:∀ p∈L,c p=t (d p):=fun p hp=>Classical.choose_spec (hx (d p)) p hp rfl
 have sub:∀ x∈Y,x∈Z.map t:=fun x hx=>by
  obtain⟨p,hp,rfl⟩:=mem_map.mp ((b x).mp hx)
  exact mem_map.mpr ⟨d p,(b' _).mpr (mem_map.mpr ⟨p,hp,rfl⟩),(ht p hp).symm⟩
 refine⟨by have:=aW a sub;rw[length_map]at this;exact this,fun e p hp q hq pq=>?_⟩
 have nd:(Z.map t).Nodup:=iN a sub (by rw[length_map];omega)
 refine dW nd _ _ ((b' _).mpr (mem_map.mpr ⟨p,hp,rfl⟩)) ((b' _).mpr (mem_map.mpr ⟨q,hq,rfl⟩)) ?_
 rw[← ht p hp,← ht q hq,pq]
def nx(adj:Nat→Nat→Bool)(c:Nat→Int)(L:List Nat)(p:Nat)(x:Int):Nat:=L.countP (fun o=>adj p o&&c o==x)
def Like(adj:Nat→Nat→Bool)(c:Nat→Int)(L:List Nat)(p q:Nat):Prop:=c p=c q∧∀ x,nx adj c L p x=nx adj c L q x
theorem Like.refl{adj:Nat→Nat→Bool}{c:Nat→Int}{L:List Nat}(p:Nat):Like adj c L p p:=⟨rfl,fun _=>rfl⟩
theorem Like.symm{adj:Nat→Nat→Bool}{c:Nat→Int}{L:List Nat}{p q:Nat}(h:Like adj c L p q):Like adj c L q p:=⟨h.1.symm,fun x=>(h.2 x).symm⟩
theorem Like.trans{adj:Nat→Nat→Bool}{c:Nat→Int}{L:List Nat}{p q r:Nat}(h:Like adj c L p q)(k:Like adj c L q r):Like adj c L p r:=⟨h.1.trans k.1,fun x=>(h.2 x).trans (k.2 x)⟩
open Classical in
noncomputable def bw(adj:Nat→Nat→Bool)(L:List Nat)(c:Nat→Int)(p:Nat):Int:=((L.find? fun q=>decide (Like adj c L q p)).getD 0:Nat)
open Classical in
theorem gX{adj:Nat→Nat→Bool}{L:List Nat}{c:Nat→Int}{p:Nat}(hp:p∈L):∃ q∈L,L.find? (fun q=>decide (Like adj c L q p))=some q∧bw adj L c p=(q:Int)∧Like adj c L q p:=by
 cases e:L.find? (fun q=>decide (Like adj c L q p))with
 |none=>
  rw[List.find?_eq_none]at e
  exact absurd (decide_eq_true (Like.refl p)) (e p hp)
 |some q=>
  refine⟨q,List.mem_of_find?_eq_some e,rfl,?_,by simpa using List.find?_some e⟩
  unfold bw
  rw[e]
  rfl
theorem bu{adj:Nat→Nat→Bool}{L:List Nat}{c:Nat→Int}{p q:Nat}(hp:p∈L)(hq:q∈L):bw adj L c p=bw adj L c q↔Like adj c L p q:=by
 constructor
 ·intro e
  obtain⟨a,ha,_,ea,la⟩:=gX (adj:=adj) (c:=c) hp
  obtain⟨b,hb,_,eb,lb⟩:=gX (adj:=adj) (c:=c) hq
  rw[ea,eb]at e
  have:a=b:=by omega
  subst this
  exact la.symm.trans lb
 ·intro h
  unfold bw
  congr 3
  funext r
  have:Like adj c L r p↔Like adj c L r q:=⟨fun k=>k.trans h,fun k=>k.trans h.symm⟩
  simp[this]
theorem rM{adj:Nat→Nat→Bool}{L:List Nat}{c:Nat→Int}(p:Nat):0≤bw adj L c p:=by
 unfold bw
 omega
def qV(adj:Nat→Nat→Bool)(L:List Nat)(c:Nat→Int):Prop:=∀ p∈L,∀ q∈L,c p=c q→∀ x,nx adj c L p x=nx adj c L q x
theorem y6{adj:Nat→Nat→Bool}{L:List Nat}{c d:Nat→Int}(h:∀ p∈L,∀ q∈L,(c p=c q↔d p=d q)){p q:Nat}(e:∀ x,nx adj c L p x=nx adj c L q x)(x:Int):nx adj d L p x=nx adj d L q x:=by
 by_cases hw:∃ w∈L,d w=x
 ·obtain⟨w,hw,rfl⟩:=hw
  have key:∀ r,nx adj d L r (d w)=nx adj c L r (c w):=fun r=>by
   unfold nx
   refine countP_congr fun o ho=>?_
   rw[Bool.and_eq_true,Bool.and_eq_true,beq_iff_eq,beq_iff_eq,h o ho w hw]
  rw[key,key,e]
 ·have key:∀ r,nx adj d L r x=0:=fun r=>by
   unfold nx
   rw[countP_eq_zero]
   intro o ho q
   rw[Bool.and_eq_true,beq_iff_eq]at q
   exact hw ⟨o,ho,q.2⟩
  rw[key,key]
theorem yn{adj:Nat→Nat→Bool}{L:List Nat}{c:Nat→Int}(h:∀ p∈L,∀ q∈L,c p=c q→bw adj L c p=bw adj L c q):qV adj L (bw adj L c):=by
 intro p hp q hq e x
 exact y6 (fun a ha b hb=>⟨h a ha b hb,fun z=>((bu ha hb).mp z).1⟩) ((bu hp hq).mp e).2 x
structure Mp(adj:Nat→Nat→Bool)(c:Nat→Int)(A B:List Nat)(g:Nat→Nat):Prop where
 len:A.length=B.length
 to:∀ p∈A,g p∈B
 inj:∀ p∈A,∀ q∈A,g p=g q→p=q
 col:∀ p∈A,c (g p)=c p
 edge:∀ p∈A,∀ q∈A,adj (g p) (g q)=adj p q
structure Sides(adj:Nat→Nat→Bool)(A B:List Nat):Prop where
 up1:A.Pairwise (· < ·)
 up2:B.Pairwise (· < ·)
 irr:∀ p,adj p p=false
 sym:∀ p q,adj p q=adj q p
 cross:∀ p∈A,∀ q∈B,adj p q=false
 dis:∀ p∈A,p∉B
theorem Mp.congr{adj:Nat→Nat→Bool}{c:Nat→Int}{A B:List Nat}{g h:Nat→Nat}(m:Mp adj c A B g)(e:∀ p∈A,h p=g p):Mp adj c A B h where
 len:=m.len
 to p hp:=by rw[e p hp];exact m.to p hp
 inj p hp q hq:=by rw[e p hp,e q hq];exact m.inj p hp q hq
 col p hp:=by rw[e p hp];exact m.col p hp
 edge p hp q hq:=by rw[e p hp,e q hq];exact m.edge p hp q hq
theorem Mp.perm{adj:Nat→Nat→Bool}{c:Nat→Int}{A B:List Nat}{g:Nat→Nat}(m:Mp adj c A B g)(nA:A.Nodup)(nB:B.Nodup):(A.map g).Perm B:=by
 have n1:(A.map g).Nodup:=a8 nA fun u v hu hv e=>m.inj u hu v hv e
 have s1:∀ x∈A.map g,x∈B:=fun x hx=>by
  obtain⟨p,hp,rfl⟩:=mem_map.mp hx
  exact m.to p hp
 refine(perm_ext_iff_of_nodup n1 nB).mpr fun x=>⟨s1 x,fun hx=>tM n1 s1 (by rw[length_map,m.len];exact le_refl _) hx⟩
theorem Mp.surj{adj:Nat→Nat→Bool}{c:Nat→Int}{A B:List Nat}{g:Nat→Nat}(m:Mp adj c A B g)(nA:A.Nodup)(nB:B.Nodup){v:Nat}(hv:v∈B):∃ p∈A,g p=v:=
 mem_map.mp ((m.perm nA nB).mem_iff.mpr hv)
theorem Mp.comp{adj:Nat→Nat→Bool}{c:Nat→Int}{A B D:List Nat}{g h:Nat→Nat}(m:Mp adj c A B g)(k:Mp adj c B D h):Mp adj c A D (fun p=>h (g p)) where
 len:=m.len.trans k.len
 to p hp:=k.to _ (m.to p hp)
 inj p hp q hq e:=m.inj p hp q hq (k.inj _ (m.to p hp) _ (m.to q hq) e)
 col p hp:=(k.col _ (m.to p hp)).trans (m.col p hp)
 edge p hp q hq:=(k.edge _ (m.to p hp) _ (m.to q hq)).trans (m.edge p hp q hq)
theorem Mp.inv{adj:Nat→Nat→Bool}{c:Nat→Int}{A B:List Nat}{g:Nat→Nat}(m:Mp adj c A B g)(nA:A.Nodup)(nB:B.Nodup):∃ h,Mp adj c B A h∧(∀ p∈A,h (g p)=p)∧∀ v∈B,g (h v)=v:=by
 have hx:∀ v,∃ p,v∈B→p∈A∧g p=v:=fun v=>by
  by_cases hv:v∈B
  ·obtain⟨p,h⟩:=m.surj nA nB hv
   exact⟨p,fun _=>h⟩
  ·exact⟨0,fun q=>absurd q hv⟩
 let h:Nat→Nat:=fun v=>Classical.choose (hx v)
 have hh:∀ v∈B,h v∈A∧g (h v)=v:=fun v hv=>Classical.choose_spec (hx v) hv
 refine⟨h,⟨m.len.symm,fun v hv=>(hh v hv).1,fun u hu v hv e=>?_,fun v hv=>?_,fun u hu v hv=>?_⟩,fun p hp=>?_,fun v hv=>(hh v hv).2⟩
 ·have:=congrArg g e
  rw[(hh u hu).2,(hh v hv).2]at this
  exact this
 ·rw[← m.col _ (hh v hv).1,(hh v hv).2]
 ·rw[← m.edge _ (hh u hu).1 _ (hh v hv).1,(hh u hu).2,(hh v hv).2]
 ·exact m.inj _ (hh _ (m.to p hp)).1 _ hp (hh _ (m.to p hp)).2
theorem Mp.id(adj:Nat→Nat→Bool)(c:Nat→Int)(A:List Nat):Mp adj c A A (fun p=>p):=⟨rfl,fun _ h=>h,fun _ _ _ _ e=>e,fun _ _=>rfl,fun _ _ _ _=>rfl⟩
theorem kE{adj:Nat→Nat→Bool}{c:Nat→Int}{A B:List Nat}(x:Int){p:Nat}(h:∀ q∈B,adj p q=false):nx adj c (A++B) p x=nx adj c A p x:=by
 unfold nx
 rw[List.countP_append]
 have:B.countP (fun o=>adj p o&&c o==x)=0:=by
  rw[countP_eq_zero]
  intro o ho q
  rw[h o ho]at q
  cases q
 omega
theorem sP{adj:Nat→Nat→Bool}{c:Nat→Int}{A B:List Nat}(x:Int){p:Nat}(h:∀ q∈A,adj p q=false):nx adj c (A++B) p x=nx adj c B p x:=by
 unfold nx
 rw[List.countP_append]
 have:A.countP (fun o=>adj p o&&c o==x)=0:=by
  rw[countP_eq_zero]
  intro o ho q
  rw[h o ho]at q
  cases q
 omega
theorem Mp.nx{adj:Nat→Nat→Bool}{c:Nat→Int}{A B:List Nat}{g:Nat→Nat}(m:Mp adj c A B g)(nA:A.Nodup)(nB:B.Nodup){p:Nat}(hp:p∈A)(x:Int):nx adj c B (g p) x=nx adj c A p x:=by
 unfold GS.nx
 rw[← (m.perm nA nB).countP_eq,countP_map]
 refine countP_congr fun o ho=>?_
 show(adj (g p) (g o)&&c (g o)==x)=true↔_
 rw[m.edge p hp o ho,m.col o ho]
theorem Mp.deep{adj:Nat→Nat→Bool}{c:Nat→Int}{A B:List Nat}{g:Nat→Nat}(S:Sides adj A B)(m:Mp adj c A B g):Mp adj (bw adj (A++B) c) A B g:=by
 refine⟨m.len,m.to,m.inj,fun p hp=>?_,m.edge⟩
 refine(bu (mem_append_right _ (m.to p hp)) (mem_append_left _ hp)).mpr ⟨m.col p hp,fun x=>?_⟩
 rw[kE x (S.cross p hp),sP x fun q hq=>by rw[S.sym];exact S.cross q hq _ (m.to p hp)]
 exact m.nx (bJ S.up1) (bJ S.up2) hp x
theorem Mp.even{adj:Nat→Nat→Bool}{c:Nat→Int}{A B:List Nat}{g:Nat→Nat}(S:Sides adj A B)(m:Mp adj c A B g):(A.map c).Perm (B.map c):=by
 have h:=(m.perm (bJ S.up1) (bJ S.up2)).map c
 rw[map_map]at h
 have e:A.map (c∘g)=A.map c:=map_congr_left fun p hp=>m.col p hp
 rw[e]at h
 exact h
theorem zw{adj:Nat→Nat→Bool}{A B:List Nat}{c d:Nat→Int}(h:∀ p∈A++B,∀ q∈A++B,d p=d q→c p=c q)(e:(A.map d).Perm (B.map d)):(A.map c).Perm (B.map c):=by
 have hx:∀ z:Int,∃ y:Int,∀ p∈A++B,d p=z→c p=y:=fun z=>by
  by_cases hz:∃ p∈A++B,d p=z
  ·obtain⟨p,hp,rfl⟩:=hz
   exact⟨c p,fun q hq e=>h q hq p hp e⟩
  ·exact⟨0,fun p hp e=>absurd ⟨p,hp,e⟩ hz⟩
 let t:Int→Int:=fun z=>Classical.choose (hx z)
 have ht:∀ p∈A++B,c p=t (d p):=fun p hp=>Classical.choose_spec (hx (d p)) p hp rfl
 have e2:=e.map t
 rw[map_map,map_map]at e2
 have h1:A.map (t∘d)=A.map c:=map_congr_left fun p hp=>(ht p (mem_append_left _ hp)).symm
 have h2:B.map (t∘d)=B.map c:=map_congr_left fun p hp=>(ht p (mem_append_right _ hp)).symm
 rw[h1,h2]at e2
 exact e2
structure o9(adj:Nat→Nat→Bool)(c:Nat→Int)(A B:List Nat):Prop extends Sides adj A B where
 even:(A.map c).Perm (B.map c)
 still:qV adj (A++B) c
 nn:∀ p∈A++B,0≤c p
noncomputable def cs(adj:Nat→Nat→Bool)(L:List Nat)(c:Nat→Int):Nat→Nat→Int
 |0=>c
 |k+1=>bw adj L (cs adj L c k)
theorem u4{adj:Nat→Nat→Bool}{L:List Nat}{c:Nat→Int}{p q:Nat}(hp:p∈L)(hq:q∈L):∀ k,cs adj L c k p=cs adj L c k q→c p=c q
 |0,h=>h
 |k+1,h=>u4 hp hq k ((bu hp hq).mp h).1
theorem Mp.cs{adj:Nat→Nat→Bool}{c:Nat→Int}{A B:List Nat}{g:Nat→Nat}(S:Sides adj A B)(m:Mp adj c A B g):∀ k,Mp adj (cs adj (A++B) c k) A B g
 |0=>m
 |k+1=>(m.cs S k).deep S
structure Deepest(adj:Nat→Nat→Bool)(c d:Nat→Int)(A B:List Nat):Prop where
 fair:o9 adj d A B
 down:∀ p∈A++B,∀ q∈A++B,d p=d q→c p=c q
 maps:∀ g,Mp adj c A B g→Mp adj d A B g
theorem Deepest.back{adj:Nat→Nat→Bool}{c d:Nat→Int}{A B:List Nat}(D:Deepest adj c d A B){g:Nat→Nat}(m:Mp adj d A B g):Mp adj c A B g:=
 ⟨m.len,m.to,m.inj,fun p hp=>D.down _ (mem_append_right _ (m.to p hp)) _ (mem_append_left _ hp) (m.col p hp),m.edge⟩
theorem tf{adj:Nat→Nat→Bool}{A B:List Nat}{c:Nat→Int}(S:Sides adj A B){k m:Nat}(e:(A.map (cs adj (A++B) c (k+1))).Perm (B.map (cs adj (A++B) c (k+1))))(h1:Kinds ((A++B).map (cs adj (A++B) c k)) m)(h2:Kinds ((A++B).map (cs adj (A++B) c (k+1))) m):
  Deepest adj c (cs adj (A++B) c (k+1)) A B:=by
 have q:=(Kinds.mono h1 h2 fun p hp q hq z=>((bu hp hq).mp z).1).2 rfl
 exact⟨⟨S,e,yn q,fun p _=>rM p⟩,fun p hp q hq=>u4 hp hq (k+1),fun g m=>m.cs S (k+1)⟩
theorem o8{adj:Nat→Nat→Bool}{c:Nat→Int}(S:Sides adj [] []):Deepest adj c c [] []:=
 ⟨⟨S,List.Perm.refl _,fun p hp=>by simp at hp,fun p hp=>by simp at hp⟩,fun p hp=>by simp at hp,fun g m=>m⟩
def lk(adj:Nat→Nat→Bool)(c:Nat→Int)(mj:Int→Int→Bool)(p q:Nat):Bool:=adj p q != mj (c p) (c q)
inductive Con(lk:Nat→Nat→Bool)(L:List Nat):Nat→Nat→Prop
 |refl (p:Nat):Con lk L p p
 |step {p q r:Nat}:Con lk L p q→r∈L→lk q r=true→Con lk L p r
section
variable{k:Nat→Nat→Bool}{L:List Nat}
theorem Con.trans{p q r:Nat}(h:Con k L p q)(g:Con k L q r):Con k L p r:=by
 induction g with
 |refl=>exact h
 |step _ hr hl ih=>exact ih.step hr hl
theorem Con.mem{p q:Nat}(h:Con k L p q)(hp:p∈L):q∈L:=by
 cases h with
 |refl=>exact hp
 |step _ hr _=>exact hr
theorem Con.symm(hs:∀ p q,k p q=k q p){p q:Nat}(h:Con k L p q)(hp:p∈L):Con k L q p:=by
 induction h with
 |refl=>exact .refl _
 |step h0 hr hl ih=>exact Con.trans (Con.step (.refl _) (h0.mem hp) (by rw[hs];exact hl)) ih
open Classical in
noncomputable def pc(k:Nat→Nat→Bool)(L:List Nat)(p:Nat):List Nat:=L.filter fun q=>decide (Con k L p q)
theorem mem_pc{p q:Nat}:q∈pc k L p↔q∈L∧Con k L p q:=by
 unfold pc
 rw[mem_filter]
 simp
theorem bz{p:Nat}(hp:p∈L):p∈pc k L p:=mem_pc.mpr ⟨hp,.refl p⟩
theorem fV(hs:∀ p q,k p q=k q p){p q:Nat}(hp:p∈L)(h:Con k L p q):pc k L q=pc k L p:=by
 unfold pc
 refine filter_congr fun r _=>?_
 have:Con k L q r↔Con k L p r:=⟨fun g=>h.trans g,fun g=>(h.symm hs hp).trans g⟩
 simp[this]
theorem bg{p q:Nat}(h:q∈pc k L p):q∈L:=(mem_pc.mp h).1
theorem bH{p:Nat}(h:L.Nodup):(pc k L p).Nodup:=h.sublist (filter_sublist)
end
section
variable{adj:Nat→Nat→Bool}{c:Nat→Int}{mj:Int→Int→Bool}
theorem gc(ha:∀ p q,adj p q=adj q p)(hm:∀ x y,mj x y=mj y x)(p q:Nat):lk adj c mj p q=lk adj c mj q p:=by
 unfold lk
 rw[ha p q,hm (c p)]
theorem Mp.lk{A B:List Nat}{g:Nat→Nat}(m:Mp adj c A B g){p q:Nat}(hp:p∈A)(hq:q∈A):lk adj c mj (g p) (g q)=lk adj c mj p q:=by
 unfold GS.lk
 rw[m.edge p hp q hq,m.col p hp,m.col q hq]
theorem Mp.con{A B:List Nat}{g:Nat→Nat}(m:Mp adj c A B g){p q:Nat}(hp:p∈A)(h:Con (GS.lk adj c mj) A p q):Con (GS.lk adj c mj) B (g p) (g q):=by
 induction h with
 |refl=>exact .refl _
 |step h0 hr hl ih=>exact ih.step (m.to _ hr) (by rw[m.lk (h0.mem hp) hr];exact hl)
theorem Mp.con_iff{A B:List Nat}{g:Nat→Nat}(m:Mp adj c A B g)(nA:A.Nodup)(nB:B.Nodup){p q:Nat}(hp:p∈A)(hq:q∈A):Con (GS.lk adj c mj) B (g p) (g q)↔Con (GS.lk adj c mj) A p q:=by
 refine⟨fun h=>?_,m.con hp⟩
 obtain⟨i,mi,h1,h2⟩:=m.inv nA nB
 have:=mi.con (m.to p hp) h
 rw[h1 p hp,h1 q hq]at this
 exact this
theorem Mp.piece{A B:List Nat}{g:Nat→Nat}(m:Mp adj c A B g)(nA:A.Nodup)(nB:B.Nodup){p:Nat}(hp:p∈A):Mp adj c (pc (GS.lk adj c mj) A p) (pc (GS.lk adj c mj) B (g p)) g:=by
 have hto:∀ q∈pc (GS.lk adj c mj) A p,g q∈pc (GS.lk adj c mj) B (g p):=fun q hq=>mem_pc.mpr ⟨m.to q (bg hq),m.con hp (mem_pc.mp hq).2⟩
 refine⟨?_,hto,fun q hq r hr=>m.inj q (bg hq) r (bg hr),fun q hq=>m.col q (bg hq),fun q hq r hr=>m.edge q (bg hq) r (bg hr)⟩
 refine le_antisymm ?_ ?_
 ·have:=aW (Y:=(pc (GS.lk adj c mj) A p).map g) (Z:=pc (GS.lk adj c mj) B (g p)) (a8 (bH nA) fun u v hu hv e=>m.inj u (bg hu) v (bg hv) e) fun x hx=>by
   obtain⟨q,hq,rfl⟩:=mem_map.mp hx
   exact hto q hq
  rw[length_map]at this
  exact this
 ·have:=aW (Y:=pc (GS.lk adj c mj) B (g p)) (Z:=(pc (GS.lk adj c mj) A p).map g) (bH nB) fun x hx=>by
   obtain⟨hx1,hx2⟩:=mem_pc.mp hx
   obtain⟨q,hq,rfl⟩:=m.surj nA nB hx1
   exact mem_map.mpr ⟨q,mem_pc.mpr ⟨hq,(m.con_iff nA nB hp hq).mp hx2⟩,rfl⟩
  rw[length_map]at this
  exact this
theorem glue{A B:List Nat}{g:Nat→Nat}(len:A.length=B.length)(h1:∀ p∈A,g p∈B∧Mp adj c (pc (GS.lk adj c mj) A p) (pc (GS.lk adj c mj) B (g p)) g)
  (h2:∀ p∈A,∀ q∈A,Con (GS.lk adj c mj) B (g p) (g q)→Con (GS.lk adj c mj) A p q):Mp adj c A B g:=by
 have col:∀ p∈A,c (g p)=c p:=fun p hp=>(h1 p hp).2.col p (bz hp)
 refine⟨len,fun p hp=>(h1 p hp).1,fun p hp q hq e=>?_,col,fun p hp q hq=>?_⟩
 ·have hc:=h2 p hp q hq (by rw[e];exact .refl _)
  exact(h1 p hp).2.inj p (bz hp) q (mem_pc.mpr ⟨hq,hc⟩) e
 ·by_cases hc:Con (GS.lk adj c mj) A p q
  ·exact(h1 p hp).2.edge p (bz hp) q (mem_pc.mpr ⟨hq,hc⟩)
  ·have n1:¬ GS.lk adj c mj p q=true:=fun z=>hc (Con.step (.refl _) hq z)
   have n2:¬ GS.lk adj c mj (g p) (g q)=true:=fun z=>hc (h2 p hp q hq (Con.step (.refl _) (h1 q hq).1 z))
   unfold GS.lk at n1 n2
   rw[col p hp,col q hq]at n2
   simp at n1 n2
   rw[n1,n2]
theorem swap{A B:List Nat}{g h:Nat→Nat}(ha:∀ p q,adj p q=adj q p)(hm:∀ x y,mj x y=mj y x)(nA:A.Nodup)(nB:B.Nodup)(m:Mp adj c A B g){p v:Nat}(hp:p∈A)(hv:v∈B)
  (w:Mp adj c (pc (GS.lk adj c mj) A p) (pc (GS.lk adj c mj) B v) h) (hpv:h p=v):
  ∃ g',Mp adj c A B g'∧(∀ q∈pc (GS.lk adj c mj) A p,g' q=h q)∧∀ q∈A,q∉pc (GS.lk adj c mj) A p→g q∉pc (GS.lk adj c mj) B v→g' q=g q:=by
 have hs:=gc (c:=c) ha hm
 obtain⟨i,wi,i1,i2⟩:=w.inv (bH nA) (bH nB)
 let g':Nat→Nat:=fun q=>if q∈pc (GS.lk adj c mj) A p then h q else if g q∈pc (GS.lk adj c mj) B v then g (i (g q))else g q
 have e1:∀ q∈pc (GS.lk adj c mj) A p,g' q=h q:=fun q hq=>if_pos hq
 have e2:∀ q,q∉pc (GS.lk adj c mj) A p→g q∈pc (GS.lk adj c mj) B v→g' q=g (i (g q)):=fun q hq hg=>by
  show(if _ then _ else if _ then _ else _)=_
  rw[if_neg hq,if_pos hg]
 have e3:∀ q,q∉pc (GS.lk adj c mj) A p→g q∉pc (GS.lk adj c mj) B v→g' q=g q:=fun q hq hg=>by
  show(if _ then _ else if _ then _ else _)=_
  rw[if_neg hq,if_neg hg]
 have t1:∀ q∈pc (GS.lk adj c mj) A p,Con (GS.lk adj c mj) B v (g' q):=fun q hq=>by
  rw[e1 q hq]
  exact(mem_pc.mp (w.to q hq)).2
 have t2:∀ q,q∉pc (GS.lk adj c mj) A p→g q∈pc (GS.lk adj c mj) B v→Con (GS.lk adj c mj) B (g p) (g' q):=fun q hq hg=>by
  rw[e2 q hq hg]
  have:=wi.to _ hg
  exact m.con hp (mem_pc.mp this).2
 have sB:∀{x y:Nat},x∈B→Con (GS.lk adj c mj) B x y→Con (GS.lk adj c mj) B y x:=fun hx h=>h.symm hs hx
 have far:∀ q∈A,q∉pc (GS.lk adj c mj) A p→¬ Con (GS.lk adj c mj) B (g p) (g q):=fun q hq hn z=>hn (mem_pc.mpr ⟨hq,(m.con_iff nA nB hp hq).mp z⟩)
 refine⟨g',glue (mj:=mj) m.len (fun q hq=>?_) (fun q hq r hr z=>?_),e1,fun q _=>e3 q⟩
 ·by_cases c1:q∈pc (GS.lk adj c mj) A p
  ·have eA:pc (GS.lk adj c mj) A q=pc (GS.lk adj c mj) A p:=fV hs hp (mem_pc.mp c1).2
   have eB:pc (GS.lk adj c mj) B (g' q)=pc (GS.lk adj c mj) B v:=fV hs hv (t1 q c1)
   refine⟨by rw[e1 q c1];exact bg (w.to q c1),?_⟩
   rw[eA,eB]
   exact w.congr e1
  ·have notin:∀ r∈pc (GS.lk adj c mj) A q,r∉pc (GS.lk adj c mj) A p:=fun r hr z=>c1 (mem_pc.mpr ⟨hq,(mem_pc.mp z).2.trans ((mem_pc.mp hr).2.symm hs hq)⟩)
   by_cases c2:g q∈pc (GS.lk adj c mj) B v
   ·have eB:pc (GS.lk adj c mj) B (g q)=pc (GS.lk adj c mj) B v:=fV hs hv (mem_pc.mp c2).2
    have eB':pc (GS.lk adj c mj) B (g' q)=pc (GS.lk adj c mj) B (g p):=fV hs (m.to p hp) (t2 q c1 c2)
    have k1:=m.piece (mj:=mj) nA nB hq
    rw[eB]at k1
    have k2:=(k1.comp wi).comp (m.piece (mj:=mj) nA nB hp)
    refine⟨by rw[e2 q c1 c2];exact m.to _ (bg (wi.to _ c2)),?_⟩
    rw[eB']
    refine k2.congr fun r hr=>e2 r (notin r hr) ?_
    exact k1.to r hr
   ·have hq':g' q=g q:=e3 q c1 c2
    refine⟨by rw[hq'];exact m.to q hq,?_⟩
    rw[hq']
    refine(m.piece (mj:=mj) nA nB hq).congr fun r hr=>e3 r (notin r hr) fun z=>c2 ?_
    exact mem_pc.mpr ⟨m.to q hq,(mem_pc.mp z).2.trans (sB (m.to q hq) (m.con hq (mem_pc.mp hr).2))⟩
 ·by_cases a1:q∈pc (GS.lk adj c mj) A p
  ·by_cases b1:r∈pc (GS.lk adj c mj) A p
   ·exact((mem_pc.mp a1).2.symm hs hp).trans (mem_pc.mp b1).2
   ·have cv:Con (GS.lk adj c mj) B v (g' r):=(t1 q a1).trans z
    by_cases b2:g r∈pc (GS.lk adj c mj) B v
    ·have:=(t2 r b1 b2).trans (sB hv cv)
     exact absurd (this.trans (mem_pc.mp b2).2) (far r hr b1)
    ·rw[e3 r b1 b2]at cv
     exact absurd (mem_pc.mpr ⟨m.to r hr,cv⟩) b2
  ·by_cases a2:g q∈pc (GS.lk adj c mj) B v
   ·have cp:Con (GS.lk adj c mj) B (g p) (g' r):=(t2 q a1 a2).trans z
    by_cases b1:r∈pc (GS.lk adj c mj) A p
    ·have:=cp.trans (sB hv (t1 r b1))
     exact absurd (this.trans (mem_pc.mp a2).2) (far q hq a1)
    ·by_cases b2:g r∈pc (GS.lk adj c mj) B v
     ·exact(m.con_iff nA nB hq hr).mp ((sB hv (mem_pc.mp a2).2).trans (mem_pc.mp b2).2)
     ·rw[e3 r b1 b2]at cp
      exact absurd cp (far r hr b1)
   ·rw[e3 q a1 a2]at z
    by_cases b1:r∈pc (GS.lk adj c mj) A p
    ·have:Con (GS.lk adj c mj) B v (g q):=(t1 r b1).trans (sB (m.to q hq) z)
     exact absurd (mem_pc.mpr ⟨m.to q hq,this⟩) a2
    ·by_cases b2:g r∈pc (GS.lk adj c mj) B v
     ·have:=(t2 r b1 b2).trans (sB (m.to q hq) z)
      exact absurd this (far q hq a1)
     ·rw[e3 r b1 b2]at z
      exact(m.con_iff nA nB hq hr).mp z
end
theorem xq{l m:List Int}(h:l.Perm m):l.sum=m.sum:=by
 induction h with
 |nil=>rfl
 |cons x _ ih=>simp only[sum_cons,ih]
 |swap x y l=>simp only[sum_cons];omega
 |trans _ _ a b=>exact a.trans b
theorem lT{α:Type}(f g:α→Int):∀ l:List α,(l.map fun x=>f x+g x).sum=(l.map f).sum+(l.map g).sum
 |[]=>rfl
 |a::l=>by
  simp only[map_cons,sum_cons,lT f g l]
  omega
theorem mh{α:Type}:∀ l:List α,(l.map fun _=>(0:Int)).sum=0
 |[]=>rfl
 |a::l=>by
  simp only[map_cons,sum_cons,mh l]
  rfl
theorem qQ{α β:Type}(f:α→β→Int)(m:List β):∀ l:List α,(l.map fun x=>(m.map fun y=>f x y).sum).sum=(m.map fun y=>(l.map fun x=>f x y).sum).sum
 |[]=>by
  simp only[map_nil,List.sum_nil]
  exact(mh m).symm
 |a::l=>by
  simp only[map_cons,sum_cons]
  rw[qQ f m l,← lT]
theorem cx{α:Type}{f g:α→Int}{l:List α}(h:∀ x∈l,f x=g x):(l.map f).sum=(l.map g).sum:=by
 rw[map_congr_left h]
def inn(adj:Nat→Nat→Bool)(c:Nat→Int)(L:List Nat)(p:Nat)(y:Int):Int:=(L.map fun o=>if c o=y then(if adj p o=true then 1 else -1)else(0:Int)).sum
def sur(adj:Nat→Nat→Bool)(c:Nat→Int)(L:List Nat)(x y:Int):Int:=(L.map fun p=>if c p=x then inn adj c L p y+(if x=y then 1 else 0)else 0).sum
def mj(adj:Nat→Nat→Bool)(c:Nat→Int)(L:List Nat)(x y:Int):Bool:=decide (0<sur adj c L x y)
variable{adj:Nat→Nat→Bool}{c:Nat→Int}{A B:List Nat}
theorem qg(p:Nat)(y:Int):∀ L:List Nat,inn adj c L p y=2*(nx adj c L p y:Int) - (L.countP (fun o=>c o==y):Int)
 |[]=>rfl
 |o::L=>by
  have ih:=qg p y L
  unfold inn nx at ih ⊢
  rw[map_cons,sum_cons,ih,List.countP_cons,List.countP_cons]
  by_cases h:c o=y
  ·by_cases k:adj p o=true
   ·simp[h,k]
    omega
   ·simp[h,k]
    omega
  ·simp[h]
theorem wD(F:o9 adj c A B)(x y:Int):sur adj c A x y=sur adj c B x y:=by
 have hn:A.countP (fun o=>c o==y)=B.countP (fun o=>c o==y):=by
  have:=F.even.countP_eq (fun z=>z==y)
  rw[countP_map,countP_map]at this
  exact this
 let phi:Nat→Int:=fun p=>if c p=x then(2*(nx adj c (A++B) p y:Int) - (A.countP (fun o=>c o==y):Int))+(if x=y then 1 else 0)else 0
 have hx:∀ z:Int,∃ w:Int,∀ p∈A++B,c p=z→phi p=w:=fun z=>by
  by_cases hz:∃ p∈A++B,c p=z
  ·obtain⟨p,hp,rfl⟩:=hz
   refine⟨phi p,fun q hq e=>?_⟩
   show(if _ then _ else _)=(if _ then _ else _)
   rw[e,F.still q hq p hp e]
  ·exact⟨0,fun p hp e=>absurd ⟨p,hp,e⟩ hz⟩
 let t:Int→Int:=fun z=>Classical.choose (hx z)
 have ht:∀ p∈A++B,phi p=t (c p):=fun p hp=>Classical.choose_spec (hx (c p)) p hp rfl
 have hA:sur adj c A x y=(A.map phi).sum:=by
  refine cx fun p hp=>?_
  show _=(if _ then _ else _)
  rw[qg,kE y (F.cross p hp)]
 have hB:sur adj c B x y=(B.map phi).sum:=by
  refine cx fun p hp=>?_
  show _=(if _ then _ else _)
  rw[qg,sP y (fun q hq=>by rw[F.sym];exact F.cross q hq p hp),hn]
 rw[hA,hB,cx fun p hp=>ht p (mem_append_left _ hp),cx fun p hp=>ht p (mem_append_right _ hp)]
 have e1:A.map (fun p=>t (c p))=(A.map c).map t:=by rw[map_map];rfl
 have e2:B.map (fun p=>t (c p))=(B.map c).map t:=by rw[map_map];rfl
 rw[e1,e2]
 exact xq (F.even.map t)
theorem xh(F:o9 adj c A B):mj adj c B=mj adj c A:=by
 funext x y
 unfold mj
 rw[wD F]
theorem yN(ha:∀ p q,adj p q=adj q p)(L:List Nat)(x y:Int):sur adj c L x y=sur adj c L y x:=by
 have key:∀ x y,sur adj c L x y=(L.map fun p=>(L.map fun o=>if c p=x∧c o=y then(if adj p o=true then 1 else -1)else(0:Int)).sum).sum+(L.map fun p=>if c p=x∧x=y then(1:Int)else 0).sum:=fun x y=>by
  rw[← lT]
  refine cx fun p _=>?_
  by_cases h:c p=x
  ·rw[if_pos h]
   simp only[h,true_and]
   rfl
  ·rw[if_neg h]
   simp only[h,false_and,if_false]
   rw[mh]
   rfl
 rw[key,key,qQ]
 congr 1
 ·refine cx fun p _=>cx fun o _=>?_
  rw[ha o p]
  simp only[and_comm]
 ·refine cx fun p _=>?_
  by_cases h:x=y
  ·subst h
   rfl
  ·rw[if_neg (fun z=>h z.2),if_neg (fun z=>h z.2.symm)]
theorem jw(ha:∀ p q,adj p q=adj q p)(L:List Nat)(x y:Int):mj adj c L x y=mj adj c L y x:=by
 unfold mj
 rw[yN ha]
theorem lone(F:o9 adj c A B){p:Nat}(hp:p∈A)(h1:∀ q∈A,c q=c p→q=p){q:Nat}(hq:q∈A):lk adj c (mj adj c A) p q=false:=by
 have nA:=bJ F.up1
 have hs:∀ y,sur adj c A (c p) y=inn adj c A p y+(if c p=y then 1 else 0):=fun y=>by
  unfold sur
  have aux:∀ L:List Nat,L.Nodup→(∀ q∈L,c q=c p→q=p)→(L.map fun p'=>if c p'=c p then inn adj c A p' y+(if c p=y then 1 else 0)else 0).sum=if p∈L then inn adj c A p y+(if c p=y then 1 else 0)else 0:=by
   intro L
   induction L with
   |nil=>intros;rfl
   |cons a L ih=>
    intro hd hu
    rw[nodup_cons]at hd
    rw[map_cons,sum_cons,ih hd.2 fun q hq=>hu q (mem_cons_of_mem _ hq)]
    by_cases e:a=p
    ·subst e
     rw[if_pos rfl,if_neg hd.1,if_pos mem_cons_self]
     omega
    ·rw[if_neg (fun z=>e (hu a mem_cons_self z))]
     by_cases m:p∈L
     ·rw[if_pos m,if_pos (mem_cons_of_mem _ m)]
      omega
     ·rw[if_neg m,if_neg (fun z=>by rcases mem_cons.mp z with z|z;exact e z.symm;exact m z)]
      rfl
  rw[aux A nA h1,if_pos hp]
 have near1:∀ r∈A,(adj r p=true↔0<nx adj c A r (c p)):=fun r hr=>by
  unfold nx
  rw[List.countP_pos_iff]
  constructor
  ·intro h
   exact⟨p,hp,by simp[h]⟩
  ·rintro⟨o,ho,z⟩
   rw[Bool.and_eq_true,beq_iff_eq]at z
   rw[← h1 o ho z.2]
   exact z.1
 have alike:∀ r∈A,c r=c q→adj p r=adj p q:=fun r hr e=>by
  have:=F.still r (mem_append_left _ hr) q (mem_append_left _ hq) e (c p)
  rw[kE _ (F.cross r hr),kE _ (F.cross q hq)]at this
  have h2:=(near1 r hr).trans ((by rw[this]:0<nx adj c A r (c p)↔0<nx adj c A q (c p)).trans (near1 q hq).symm)
  rw[F.sym p r,F.sym p q]
  exact Bool.eq_iff_iff.mpr h2
 unfold lk mj
 rw[hs,qg]
 by_cases hqp:c p=c q
 ·have e:=h1 q hq hqp.symm
  subst e
  have n0:nx adj c A q (c q)=0:=by
   unfold nx
   rw[countP_eq_zero]
   intro o ho z
   rw[Bool.and_eq_true,beq_iff_eq]at z
   rw[h1 o ho z.2,F.irr]at z
   cases z.1
  have n1:0<A.countP (fun o=>c o==c q):=List.countP_pos_iff.mpr ⟨q,hq,by simp⟩
  rw[n0,F.irr,if_pos rfl]
  have:decide (0<2*((0:Nat):Int) - (A.countP (fun o=>c o==c q):Int)+1)=false:=by
   rw[decide_eq_false_iff_not]
   omega
  rw[this]
  rfl
 ·have n1:0<A.countP (fun o=>c o==c q):=List.countP_pos_iff.mpr ⟨q,hq,by simp⟩
  rw[if_neg hqp]
  by_cases k:adj p q=true
  ·have:nx adj c A p (c q)=A.countP (fun o=>c o==c q):=by
    unfold nx
    refine countP_congr fun o ho=>?_
    rw[Bool.and_eq_true,beq_iff_eq]
    exact⟨fun z=>z.2,fun z=>⟨by rw[alike o ho z];exact k,z⟩⟩
   rw[this,k]
   have:decide (0<2*(A.countP (fun o=>c o==c q):Int) - (A.countP (fun o=>c o==c q):Int)+0)=true:=by
    rw[decide_eq_true_iff]
    omega
   rw[this]
   rfl
  ·have:nx adj c A p (c q)=0:=by
    unfold nx
    rw[countP_eq_zero]
    intro o ho z
    rw[Bool.and_eq_true,beq_iff_eq]at z
    rw[alike o ho z.2]at z
    exact k z.1
   have k':adj p q=false:=by simpa using k
   rw[this,k']
   have:decide (0<2*((0:Nat):Int) - (A.countP (fun o=>c o==c q):Int)+0)=false:=by
    rw[decide_eq_false_iff_not]
    omega
   rw[this]
   rfl
theorem qB(F:o9 adj c A B){p:Nat}(hp:p∈A)(h1:∀ q∈A,c q=c p→q=p){q:Nat}(h:Con (lk adj c (mj adj c A)) A p q):q=p:=by
 induction h with
 |refl=>rfl
 |step h0 hr hl ih=>
  rw[ih,lone F hp h1 hr]at hl
  cases hl
theorem rf(F:o9 adj c A B){p:Nat}(hp:p∈A)(h1:∀ q∈A,c q=c p→q=p)(hl:2≤A.length){q:Nat}(hq:q∈A):(pc (lk adj c (mj adj c A)) A q).length+1≤A.length:=by
 have nA:=bJ F.up1
 have hs:=gc (c:=c) F.sym (jw (c:=c) F.sym A)
 by_cases e:q=p
 ·subst e
  have:(pc (lk adj c (mj adj c A)) A q).length≤[q].length:=aW (bH nA) fun x hx=>by
   rw[qB F hq h1 (mem_pc.mp hx).2]
   exact mem_singleton.mpr rfl
  simp at this
  omega
 ·have:=aW (Y:=p::pc (lk adj c (mj adj c A)) A q) (Z:=A) (nodup_cons.mpr ⟨fun z=>e (qB F hp h1 ((mem_pc.mp z).2.symm hs hq)),bH nA⟩) fun x hx=>by
   rcases mem_cons.mp hx with rfl|z
   ·exact hp
   ·exact bg z
  simpa using this
variable{adj:Nat→Nat→Bool}{c:Nat→Int}{k:Int→Int→Bool}{A B:List Nat}
structure dz(adj:Nat→Nat→Bool)(c:Nat→Int)(A B:List Nat)(f:Nat→Nat):Prop where
 mp:Mp adj c A B f
 min:∀ g,Mp adj c A B g→∀ r∈A,(∀ q∈A,q<r→g q=f q)→f r≤g r
structure iI(adj:Nat→Nat→Bool)(c:Nat→Int)(A B:List Nat)(p v:Nat)(f:Nat→Nat):Prop where
 mp:Mp adj c A B f
 at_:f p=v
 min:∀ g,Mp adj c A B g→g p=v→∀ r∈A,(∀ q∈A,q<r→g q=f q)→f r≤g r
structure FI(adj:Nat→Nat→Bool)(c:Nat→Int)(k:Int→Int→Bool)(A B:List Nat)(i:Nat)(S:Nat→Prop)(f:Nat→Nat):Prop where
 dom:∀ q,S q↔q∈A∧∃ p∈A.take i,Con (lk adj c k) A p q
 pcs:∀ q,S q→f q∈B∧Mp adj c (pc (lk adj c k) A q) (pc (lk adj c k) B (f q)) f
 apart:∀ q r,S q→S r→Con (lk adj c k) B (f q) (f r)→Con (lk adj c k) A q r
 ext:∀ g,Mp adj c A B g→∃ g',Mp adj c A B g'∧∀ q,S q→g' q=f q
 min:∀ g,Mp adj c A B g→∀ r,S r→(∀ q,S q→q<r→g q=f q)→f r≤g r
theorem FI.start(f:Nat→Nat):FI adj c k A B 0 (fun _=>False) f:=
 ⟨fun q=>⟨fun h=>h.elim,fun⟨_,p,hp,_⟩=>by simp at hp⟩,fun _ h=>h.elim,fun _ _ h=>h.elim,fun g m=>⟨g,m,fun _ h=>h.elim⟩,fun _ _ _ h=>h.elim⟩
theorem FI.sub{i:Nat}{S:Nat→Prop}{f:Nat→Nat}(I:FI adj c k A B i S f){q:Nat}(h:S q):q∈A:=((I.dom q).mp h).1
theorem oQ{p i:Nat}(h:A[i]?=some p):A.take (i+1)=A.take i++[p]:=by
 rw[List.take_add_one,h]
 rfl
theorem FI.skip{i:Nat}{S:Nat→Prop}{f:Nat→Nat}(I:FI adj c k A B i S f){p:Nat}(h:A[i]?=some p)(hp:S p):FI adj c k A B (i+1) S f:=by
 refine⟨fun q=>?_,I.pcs,I.apart,I.ext,I.min⟩
 rw[I.dom q,oQ h]
 refine and_congr_right fun hq=>⟨fun⟨r,hr,z⟩=>⟨r,mem_append_left _ hr,z⟩,fun⟨r,hr,z⟩=>?_⟩
 rcases mem_append.mp hr with hr|hr
 ·exact⟨r,hr,z⟩
 ·have e:r=p:=by simpa using hr
  subst e
  obtain⟨_,s,hs,z'⟩:=(I.dom r).mp hp
  exact⟨s,hs,z'.trans z⟩
theorem oT{p i:Nat}(hA:A.Pairwise (· < ·))(h:A[i]?=some p){q:Nat}(hq:q∈A)(hl:q<p):q∈A.take i:=by
 obtain⟨j,hj,e⟩:=getElem_of_mem hq
 obtain⟨hi,e2⟩:=List.getElem?_eq_some_iff.mp h
 have hji:j<i:=by
  refine Classical.byContradiction fun z=>?_
  rcases lt_or_eq_of_le (Nat.le_of_not_lt z)with z|z
  ·have:=List.pairwise_iff_getElem.mp hA i j hi hj z
   rw[e,e2]at this
   omega
  ·subst z
   rw[e]at e2
   omega
 rw[← e]
 exact mem_take_iff_getElem.mpr ⟨j,by omega,rfl⟩
theorem zV{p i:Nat}(hA:A.Pairwise (· < ·))(h:A[i]?=some p){q:Nat}(hq:q∈A.take i):q<p:=by
 obtain⟨j,hj,e⟩:=mem_take_iff_getElem.mp hq
 obtain⟨hi,e2⟩:=List.getElem?_eq_some_iff.mp h
 have:=List.pairwise_iff_getElem.mp hA j i (by omega) hi (by omega)
 rw[e,e2]at this
 exact this
theorem FI.put{i:Nat}{S:Nat→Prop}{f:Nat→Nat}(I:FI adj c k A B i S f)(uA:A.Pairwise (· < ·))(uB:B.Pairwise (· < ·))(ha:∀ p q,adj p q=adj q p)(hk:∀ x y,k x y=k y x)
  {p v:Nat} {h:Nat→Nat} (hi:A[i]?=some p) (hp:¬ S p) (hv:v∈B) (fv:∀ q,S q→f q≠v) (F:iI adj c (pc (lk adj c k) A p) (pc (lk adj c k) B v) p v h)
  (least:∀ u∈B,u<v→(∀ q,S q→f q≠u)→¬∃ h',Mp adj c (pc (lk adj c k) A p) (pc (lk adj c k) B u) h'∧h' p=u) {f':Nat→Nat} (e1:∀ q∈pc (lk adj c k) A p,f' q=h q) (e2:∀ q,S q→f' q=f q):
  FI adj c k A B (i+1) (fun q=>S q∨q∈pc (lk adj c k) A p) f':=by
 have nA:=bJ uA
 have nB:=bJ uB
 have hs:=gc (c:=c) ha hk
 have hpA:p∈A:=mem_of_getElem? hi
 have clo:∀{q r},S q→Con (lk adj c k) A q r→S r:=fun {q r} sq z=>by
  obtain⟨hq,s,hs',z'⟩:=(I.dom q).mp sq
  exact(I.dom r).mpr ⟨z.mem hq,s,hs',z'.trans z⟩
 have out:∀{q},q∈pc (lk adj c k) A p→¬ S q:=fun {q} hq sq=>hp (clo sq ((mem_pc.mp hq).2.symm hs hpA))
 have back:∀{q u},S q→u∈B→Con (lk adj c k) B (f q) u→∃ r,S r∧f r=u:=fun {q u} sq hu z=>by
  obtain⟨r,hr,e⟩:=(I.pcs q sq).2.surj (bH nA) (bH nB) (mem_pc.mpr ⟨hu,z⟩)
  exact⟨r,clo sq (mem_pc.mp hr).2,e⟩
 have offv:∀{q},S q→¬ Con (lk adj c k) B v (f q):=fun {q} sq z=>by
  obtain⟨r,sr,e⟩:=back sq hv (z.symm hs hv)
  exact fv r sr e
 refine⟨fun q=>?_,fun q hq=>?_,fun q r hq hr z=>?_,fun g m=>?_,fun g m r hr ag=>?_⟩
 ·rw[I.dom q,oQ hi,mem_pc]
  constructor
  ·rintro(⟨hq,r,hr,z⟩|⟨hq,z⟩)
   ·exact⟨hq,r,mem_append_left _ hr,z⟩
   ·exact⟨hq,p,mem_append_right _ (mem_singleton.mpr rfl),z⟩
  ·rintro⟨hq,r,hr,z⟩
   rcases mem_append.mp hr with hr|hr
   ·exact .inl ⟨hq,r,hr,z⟩
   ·have e:r=p:=by simpa using hr
    subst e
    exact .inr ⟨hq,z⟩
 ·rcases hq with sq|hq
  ·rw[e2 q sq]
   refine⟨(I.pcs q sq).1,(I.pcs q sq).2.congr fun r hr=>e2 r (clo sq (mem_pc.mp hr).2)⟩
  ·rw[e1 q hq]
   have:=F.mp.to q hq
   refine⟨bg this,?_⟩
   rw[fV hs hpA (mem_pc.mp hq).2,fV hs hv (mem_pc.mp this).2]
   exact F.mp.congr e1
 ·rcases hq with sq|hq<;>rcases hr with sr|hr
  ·rw[e2 q sq,e2 r sr]at z
   exact I.apart q r sq sr z
  ·rw[e2 q sq,e1 r hr]at z
   have:=(mem_pc.mp (F.mp.to r hr)).2
   exact absurd (this.trans (z.symm hs (I.pcs q sq).1)) (offv sq)
  ·rw[e1 q hq,e2 r sr]at z
   have:=(mem_pc.mp (F.mp.to q hq)).2
   exact absurd (this.trans z) (offv sr)
  ·exact((mem_pc.mp hq).2.symm hs hpA).trans (mem_pc.mp hr).2
 ·obtain⟨g1,m1,a1⟩:=I.ext g m
  obtain⟨g2,m2,b1,b2⟩:=swap ha hk nA nB m1 hpA hv F.mp F.at_
  refine⟨g2,m2,fun q hq=>?_⟩
  rcases hq with sq|hq
  ·rw[e2 q sq,b2 q (I.sub sq) (fun z=>out z sq) (fun z=>?_),a1 q sq]
   rw[a1 q sq]at z
   exact offv sq (mem_pc.mp z).2
  ·rw[e1 q hq,b1 q hq]
 ·rcases hr with sr|hr
  ·rw[e2 r sr]
   refine I.min g m r sr fun q sq hl=>?_
   rw[ag q (.inl sq) hl,e2 q sq]
  ·
   have mp1:=m.piece (mj:=k) nA nB hpA
   by_cases hrp:r=p
   ·subst hrp
    rw[e1 r hr,F.at_]
    refine Classical.byContradiction fun hlt=>?_
    refine least (g r) (m.to r hpA) (by omega) (fun q sq z=>?_) ⟨g,mp1,rfl⟩
    obtain⟨hq,s,hs',z'⟩:=(I.dom q).mp sq
    have hsA:s∈A:=List.mem_of_mem_take hs'
    have ss:S s:=(I.dom s).mpr ⟨hsA,s,hs',.refl s⟩
    have es:g s=f s:=by
     rw[ag s (.inl ss) (zV uA hi hs'),e2 s ss]
    have:Con (lk adj c k) B (g s) (g r):=by
     rw[es,← z]
     exact(mem_pc.mp ((I.pcs s ss).2.to q (mem_pc.mpr ⟨hq,z'⟩))).2
    exact hp (clo ss ((m.con_iff nA nB hsA hpA).mp this))
   ·have hpr:p<r:=by
     refine Classical.byContradiction fun z=>?_
     have hr':=oT uA hi (bg hr) (by omega)
     exact out hr ((I.dom r).mpr ⟨bg hr,r,hr',.refl r⟩)
    have gp:g p=v:=by
     rw[ag p (.inr (bz hpA)) hpr,e1 p (bz hpA),F.at_]
    rw[gp]at mp1
    rw[e1 r hr]
    refine F.min g mp1 gp r hr fun q hq hl=>?_
    rw[ag q (.inr hq) hl,e1 q hq]
theorem FI.first{S:Nat→Prop}{f:Nat→Nat}{i:Nat}(I:FI adj c k A B i S f)(hi:i=A.length)(len:A.length=B.length):dz adj c A B f:=by
 have all:∀ q,S q↔q∈A:=fun q=>by
  rw[I.dom q,hi,take_length]
  exact⟨fun h=>h.1,fun h=>⟨h,q,h,.refl q⟩⟩
 refine⟨glue (mj:=k) len (fun p hp=>I.pcs p ((all p).mpr hp)) fun p hp q hq=>I.apart p q ((all p).mpr hp) ((all q).mpr hq),fun g m r hr ag=>I.min g m r ((all r).mpr hr) fun q sq hl=>ag q ((all q).mp sq) hl⟩
theorem FI.none{S:Nat→Prop}{f:Nat→Nat}{i:Nat}(I:FI adj c k A B i S f)(nA:A.Nodup)(nB:B.Nodup){p:Nat}(hi:A[i]?=some p)(hp:¬ S p)
  (no:∀ u∈B,(∀ q,S q→f q≠u)→¬∃ h',Mp adj c (pc (lk adj c k) A p) (pc (lk adj c k) B u) h'∧h' p=u):¬∃ g,Mp adj c A B g:=by
 rintro⟨g,m⟩
 obtain⟨g1,m1,a1⟩:=I.ext g m
 have hpA:p∈A:=mem_of_getElem? hi
 refine no (g1 p) (m1.to p hpA) (fun q sq z=>hp ?_) ⟨g1,m1.piece (mj:=k) nA nB hpA,rfl⟩
 rw[← a1 q sq]at z
 rw[← m1.inj q (I.sub sq) p hpA z]
 exact sq
def chosen(c:Nat→Int)(p v q:Nat):Int:=if q=p∨q=v then -1 else c q
theorem g7{p v:Nat}(nn:∀ q∈A++B,0≤c q)(dis:∀ q∈A,q∉B)(hp:p∈A)(hv:v∈B)(e:c p=c v){g:Nat→Nat}:Mp adj (chosen c p v) A B g↔Mp adj c A B g∧g p=v:=by
 have ch:∀ q∈A++B,(chosen c p v q= -1↔q=p∨q=v):=fun q hq=>by
  unfold chosen
  by_cases h:q=p∨q=v
  ·simp[h]
  ·rw[if_neg h]
   have:=nn q hq
   constructor
   ·intro z;omega
   ·intro z;exact absurd z h
 constructor
 ·intro m
  have gp:g p=v:=by
   have:=m.col p hp
   rw[(ch p (mem_append_left _ hp)).mpr (.inl rfl)]at this
   rcases(ch _ (mem_append_right _ (m.to p hp))).mp this with z|z
   ·exact absurd (by rw[← z];exact m.to p hp) (dis p hp)
   ·exact z
  refine⟨⟨m.len,m.to,m.inj,fun q hq=>?_,m.edge⟩,gp⟩
  by_cases h:q=p
  ·subst h
   rw[gp,e]
  ·have:=m.col q hq
   have h1:¬(q=p∨q=v):=fun z=>by
    rcases z with z|z
    ·exact h z
    ·exact dis q hq (by rw[z];exact hv)
   have h2:¬(g q=p∨g q=v):=fun z=>by
    rcases z with z|z
    ·exact dis p hp (by rw[← z];exact m.to q hq)
    ·exact h (m.inj q hq p hp (z.trans gp.symm))
   unfold chosen at this
   rw[if_neg h1,if_neg h2]at this
   exact this
 ·rintro⟨m,gp⟩
  refine⟨m.len,m.to,m.inj,fun q hq=>?_,m.edge⟩
  by_cases h:q=p
  ·subst h
   unfold chosen
   rw[gp,if_pos (c:=v=q∨v=v) (.inr rfl),if_pos (.inl rfl)]
  ·have h1:¬(q=p∨q=v):=fun z=>by
    rcases z with z|z
    ·exact h z
    ·exact dis q hq (by rw[z];exact hv)
   have h2:¬(g q=p∨g q=v):=fun z=>by
    rcases z with z|z
    ·exact dis p hp (by rw[← z];exact m.to q hq)
    ·exact h (m.inj q hq p hp (z.trans gp.symm))
   unfold chosen
   rw[if_neg h1,if_neg h2]
   exact m.col q hq
theorem Deepest.put{p v:Nat}{d:Nat→Int}(nn:∀ q∈A++B,0≤c q)(dis:∀ q∈A,q∉B)(hp:p∈A)(hv:v∈B)(e:c p=c v)(D:Deepest adj (chosen c p v) d A B){g:Nat→Nat}:Mp adj d A B g↔Mp adj c A B g∧g p=v:=
 Iff.trans ⟨D.back,D.maps g⟩ (g7 nn dis hp hv e)
theorem Deepest.firstPut{p v:Nat}{d:Nat→Int}(nn:∀ q∈A++B,0≤c q)(dis:∀ q∈A,q∉B)(hp:p∈A)(hv:v∈B)(e:c p=c v)(D:Deepest adj (chosen c p v) d A B){g:Nat→Nat}(F:dz adj d A B g):iI adj c A B p v g:=
 ⟨((D.put nn dis hp hv e).mp F.mp).1,((D.put nn dis hp hv e).mp F.mp).2,fun h m z=>F.min h ((D.put nn dis hp hv e).mpr ⟨m,z⟩)⟩
theorem Deepest.lone{p v:Nat}{d:Nat→Int}(nn:∀ q∈A++B,0≤c q)(dis:∀ q∈A,q∉B)(hp:p∈A)(hv:v∈B)(D:Deepest adj (chosen c p v) d A B){q:Nat}(hq:q∈A)(e:d q=d p):q=p:=by
 have:=D.down q (mem_append_left _ hq) p (mem_append_left _ hp) e
 unfold chosen at this
 rw[if_pos (c:=p=p∨p=v) (.inl rfl)]at this
 by_cases h:q=p∨q=v
 ·rcases h with h|h
  ·exact h
  ·exact absurd (by rw[h];exact hv) (dis q hq)
 ·rw[if_neg h]at this
  have:=nn q (mem_append_left _ hq)
  omega
def Card{α:Type}(S:α→Prop)(m:Nat):Prop:=∃ l:List α,l.Nodup∧(∀ x,x∈l↔S x)∧l.length=m
theorem Card.eq{α:Type}{S:α→Prop}{m n:Nat}(h:Card S m)(g:Card S n):m=n:=by
 obtain⟨Y,a,b,rfl⟩:=h
 obtain⟨Z,a',b',rfl⟩:=g
 exact le_antisymm (aW a fun x hx=>(b' x).mpr ((b x).mp hx)) (aW a' fun x hx=>(b x).mpr ((b' x).mp hx))
theorem Card.congr{α:Type}{S T:α→Prop}{m:Nat}(h:Card S m)(e:∀ x,T x↔S x):Card T m:=by
 obtain⟨Y,a,b,c⟩:=h
 exact⟨Y,a,fun x=>(b x).trans (e x).symm,c⟩
theorem lD{α:Type}{S:α→Prop}(x:α)(h:∀ y,S y↔y=x):Card S 1:=⟨[x],by simp,fun y=>by rw[h y];simp,rfl⟩
theorem ij{α β:Type}(f:α→List β):∀{O:List α},O.Nodup→(∀ a∈O,(f a).Nodup)→(∀ a∈O,∀ b∈O,∀ x,x∈f a→x∈f b→a=b)→(O.flatMap f).Nodup
 |[],_,_,_=>nodup_nil
 |a::O,h,h1,h2=>by
  rw[List.flatMap_cons,nodup_append]
  rw[nodup_cons]at h
  refine⟨h1 a mem_cons_self,ij f h.2 (fun b hb=>h1 b (mem_cons_of_mem _ hb)) (fun b hb d hd=>h2 b (mem_cons_of_mem _ hb) d (mem_cons_of_mem _ hd)),fun x hx y hy e=>?_⟩
  subst e
  obtain⟨b,hb,hxb⟩:=mem_flatMap.mp hy
  exact h.1 (h2 a mem_cons_self b (mem_cons_of_mem _ hb) x hx hxb▸hb)
theorem dy{α β:Type}{f:α→List β}{m:Nat}:∀{O:List α},(∀ a∈O,(f a).length=m)→(O.flatMap f).length=O.length*m
 |[],_=>by simp
 |a::O,h=>by
  rw[List.flatMap_cons,length_append,h a mem_cons_self,dy fun b hb=>h b (mem_cons_of_mem _ hb),length_cons,Nat.succ_mul]
  omega
theorem we{α β γ:Type}{S:α→Prop}{T:β→Prop}{U:γ→Prop}{m n:Nat}(f:α→β→γ)(hS:Card S m)(hT:Card T n)(h:∀ x,U x↔∃ a b,S a∧T b∧x=f a b)
  (inj:∀ a b a' b',S a→T b→S a'→T b'→f a b=f a' b'→a=a'∧b=b'):Card U (m*n):=by
 obtain⟨Y,y1,y2,rfl⟩:=hS
 obtain⟨Z,z1,z2,rfl⟩:=hT
 refine⟨Y.flatMap fun a=>Z.map (f a),ij _ y1 (fun a ha=>a8 z1 fun b b' hb hb' e=>(inj a b a b' ((y2 a).mp ha) ((z2 b).mp hb) ((y2 a).mp ha) ((z2 b').mp hb') e).2) (fun a ha a' ha' x hx hx'=>?_),fun x=>?_,dy fun a _=>length_map _⟩
 ·obtain⟨b,hb,e⟩:=mem_map.mp hx
  obtain⟨b',hb',e'⟩:=mem_map.mp hx'
  exact(inj a b a' b' ((y2 a).mp ha) ((z2 b).mp hb) ((y2 a').mp ha') ((z2 b').mp hb') (e.trans e'.symm)).1
 ·rw[mem_flatMap,h x]
  constructor
  ·rintro⟨a,ha,hx⟩
   obtain⟨b,hb,e⟩:=mem_map.mp hx
   exact⟨a,b,(y2 a).mp ha,(z2 b).mp hb,e.symm⟩
  ·rintro⟨a,b,ha,hb,e⟩
   exact⟨a,(y2 a).mpr ha,mem_map.mpr ⟨b,(z2 b).mpr hb,e.symm⟩⟩
structure Grp(S:(Nat→Nat)→Prop):Prop where
 mul:∀{g h},S g→S h→S (fun p=>g (h p))
 inv:∀{g},S g→∃ h,S h∧(∀ p,h (g p)=p)∧∀ p,g (h p)=p
theorem rT{S:(Nat→Nat)→Prop}(G:Grp S){p:Nat}{O:List Nat}(nd:O.Nodup)(hO:∀ o,o∈O↔∃ g,S g∧g p=o){m:Nat}(hm:Card (fun g=>S g∧g p=p) m):Card S (O.length*m):=by
 obtain⟨l,l1,l2,rfl⟩:=hm
 have hx:∀ o,∃ g,o∈O→S g∧g p=o:=fun o=>by
  by_cases h:o∈O
  ·obtain⟨g,hg⟩:=(hO o).mp h
   exact⟨g,fun _=>hg⟩
  ·exact⟨id,fun z=>absurd z h⟩
 let t:Nat→Nat→Nat:=fun o=>Classical.choose (hx o)
 have ht:∀ o∈O,S (t o)∧t o p=o:=fun o h=>Classical.choose_spec (hx o) h
 refine⟨O.flatMap fun o=>l.map fun s=>fun q=>t o (s q),ij _ nd (fun o ho=>a8 l1 fun a b _ _ e=>?_) (fun o ho o' ho' x hx hx'=>?_),fun g=>?_,dy fun a _=>length_map _⟩
 ·obtain⟨i,_,hi,_⟩:=G.inv (ht o ho).1
  funext q
  have:=congrArg i (congrFun e q)
  rw[hi,hi]at this
  exact this
 ·obtain⟨s,hs,e⟩:=mem_map.mp hx
  obtain⟨s',hs',e'⟩:=mem_map.mp hx'
  have:=congrFun (e.trans e'.symm) p
  simp only[((l2 s).mp hs).2,((l2 s').mp hs').2,(ht o ho).2,(ht o' ho').2]at this
  exact this
 ·rw[mem_flatMap]
  constructor
  ·rintro⟨o,ho,hg⟩
   obtain⟨s,hs,e⟩:=mem_map.mp hg
   rw[← e]
   exact G.mul (ht o ho).1 ((l2 s).mp hs).1
  ·intro hg
   have ho:g p∈O:=(hO _).mpr ⟨g,hg,rfl⟩
   obtain⟨i,si,h1,h2⟩:=G.inv (ht _ ho).1
   refine⟨g p,ho,mem_map.mpr ⟨fun q=>i (g q),(l2 _).mpr ⟨G.mul si hg,?_⟩,?_⟩⟩
   ·have:=h1 p
    rw[(ht _ ho).2]at this
    exact this
   ·funext q
    exact h2 (g q)
variable{adj:Nat→Nat→Bool}{c:Nat→Int}{k:Int→Int→Bool}
def Aut(adj:Nat→Nat→Bool)(c:Nat→Int)(A:List Nat)(g:Nat→Nat):Prop:=(∀ p,p∉A→g p=p)∧Mp adj c A A g
def keep(A:List Nat)(g:Nat→Nat)(p:Nat):Nat:=if p∈A then g p else p
theorem eY{A:List Nat}{g:Nat→Nat}{p:Nat}(h:p∈A):keep A g p=g p:=if_pos h
theorem dc{A:List Nat}{g:Nat→Nat}{p:Nat}(h:p∉A):keep A g p=p:=if_neg h
theorem iq{A:List Nat}{g:Nat→Nat}(m:Mp adj c A A g):Aut adj c A (keep A g):=⟨fun p hp=>dc hp,m.congr fun p hp=>eY hp⟩
theorem zq{A:List Nat}(nA:A.Nodup):Grp (Aut adj c A):=by
 refine⟨fun {g h} a b=>⟨fun p hp=>by show g (h p)=p;rw[b.1 p hp,a.1 p hp],b.2.comp a.2⟩,fun {g} a=>?_⟩
 obtain⟨h,m,h1,h2⟩:=a.2.inv nA nA
 refine⟨keep A h,iq m,fun p=>?_,fun p=>?_⟩
 ·by_cases hp:p∈A
  ·rw[eY (a.2.to p hp),h1 p hp]
  ·rw[a.1 p hp,dc hp]
 ·by_cases hp:p∈A
  ·rw[eY hp,h2 p hp]
  ·rw[dc hp,a.1 p hp]
theorem xJ(A:List Nat):Aut adj c A (fun p=>p):=⟨fun _ _=>rfl,Mp.id adj c A⟩
theorem k6{l:Nat→Nat→Bool}{L M:List Nat}(sub:∀ q∈M,q∈L)(clo:∀ q∈M,∀ r,Con l L q r→r∈M){q r:Nat}(hq:q∈M):Con l M q r↔Con l L q r:=by
 constructor
 ·intro h
  induction h with
  |refl=>exact .refl _
  |step h0 hr hl ih=>exact ih.step (sub _ hr) hl
 ·intro h
  induction h with
  |refl=>exact .refl _
  |step h0 hr hl ih=>exact ih.step (clo q hq _ (h0.step hr hl)) hl
theorem oz{l:Nat→Nat→Bool}{L:List Nat}{f:Nat→Bool}(clo:∀ q∈L.filter f,∀ r,Con l L q r→r∈L.filter f){q:Nat}(hq:q∈L.filter f):pc l (L.filter f) q=pc l L q:=by
 unfold pc
 rw[List.filter_filter]
 refine filter_congr fun r hr=>?_
 have e:=k6 (l:=l) (fun q h=>(mem_filter.mp h).1) clo (r:=r) hq
 by_cases h:Con l L q r
 ·have:=(mem_filter.mp (clo q hq r h)).2
  simp[this,h,e.mpr h]
 ·have:¬ Con l (L.filter f) q r:=fun z=>h (e.mp z)
  simp[h,this]
theorem vD{L:List Nat}(nL:L.Nodup)(ha:∀ p q,adj p q=adj q p)(hk:∀ x y,k x y=k y x){p:Nat}(hp:p∈L)(o:Nat):
  (∃ g,Aut adj c L g∧g p=o)↔o∈L∧∃ h,Mp adj c (pc (lk adj c k) L p) (pc (lk adj c k) L o) h∧h p=o:=by
 constructor
 ·rintro⟨g,a,rfl⟩
  exact⟨a.2.to p hp,g,a.2.piece nL nL hp,rfl⟩
 ·rintro⟨ho,h,m,e⟩
  obtain⟨g,mg,g1,_⟩:=swap (mj:=k) ha hk nL nL (Mp.id adj c L) hp ho m e
  refine⟨keep L g,iq mg,?_⟩
  rw[eY hp,g1 p (bz hp),e]
theorem tj{L:List Nat}(nL:L.Nodup)(ha:∀ p q,adj p q=adj q p)(hk:∀ x y,k x y=k y x){p:Nat}(hp:p∈L){R:List Nat}(hR:R=L.filter fun q=> !(pc (lk adj c k) L p).contains q){m n:Nat}
  (h1:Card (fun a=>Aut adj c (pc (lk adj c k) L p) a∧a p=p) m) (h2:Card (Aut adj c R) n):Card (fun g=>Aut adj c L g∧g p=p) (m*n):=by
 have hs:=gc (c:=c) ha hk
 have mR:∀{q},q∈R↔q∈L∧q∉pc (lk adj c k) L p:=fun {q}=>by
  rw[hR,mem_filter]
  simp[contains_eq_mem]
 have clo:∀ q∈R,∀ r,Con (lk adj c k) L q r→r∈R:=fun q hq r z=>by
  obtain⟨q1,q2⟩:=mR.mp hq
  refine mR.mpr ⟨z.mem q1,fun w=>q2 (mem_pc.mpr ⟨q1,(mem_pc.mp w).2.trans (z.symm hs q1)⟩)⟩
 have nR:R.Nodup:=by
  rw[hR]
  exact nL.sublist filter_sublist
 have pR:∀ q∈R,pc (lk adj c k) R q=pc (lk adj c k) L q:=fun q hq=>by
  rw[hR]at hq clo ⊢
  exact oz clo hq
 have cR:∀{q r},q∈R→(Con (lk adj c k) R q r↔Con (lk adj c k) L q r):=fun {q r} hq=>k6 (fun q h=>(mR.mp h).1) clo hq
 have offP:∀{q},q∈pc (lk adj c k) L p→q∉R:=fun {q} hq z=>(mR.mp z).2 hq
 refine we (fun a b q=>a (b q)) h1 h2 (fun g=>⟨fun⟨ag,gp⟩=>?_,?_⟩) ?_
 ·have mp1:=ag.2.piece (mj:=k) nL nL hp
  rw[gp]at mp1
  have toR:∀ q∈R,g q∈R:=fun q hq=>by
   obtain⟨q1,q2⟩:=mR.mp hq
   refine mR.mpr ⟨ag.2.to q q1,fun z=>?_⟩
   obtain⟨r,hr,e⟩:=mp1.surj (bH nL) (bH nL) z
   exact q2 (ag.2.inj r (bg hr) q q1 e▸hr)
  refine⟨keep _ g,keep R g,⟨iq mp1,by rw[eY (bz hp)];exact gp⟩,iq ⟨rfl,toR,fun q hq r hr=>ag.2.inj q (mR.mp hq).1 r (mR.mp hr).1,fun q hq=>ag.2.col q (mR.mp hq).1,fun q hq r hr=>ag.2.edge q (mR.mp hq).1 r (mR.mp hr).1⟩,?_⟩
  funext q
  by_cases a1:q∈pc (lk adj c k) L p
  ·rw[dc (offP a1),eY a1]
  ·by_cases a2:q∈L
   ·have hq:q∈R:=mR.mpr ⟨a2,a1⟩
    rw[eY hq,dc fun z=>offP z (toR q hq)]
   ·rw[dc fun z=>a2 (mR.mp z).1,dc a1,ag.1 q a2]
 ·rintro⟨a,b,⟨aa,ap⟩,ab,rfl⟩
  have bP:∀ q∈pc (lk adj c k) L p,b q=q:=fun q hq=>ab.1 q (offP hq)
  have aR:∀ q∈R,a q=q:=fun q hq=>aa.1 q fun z=>offP z hq
  have gP:∀ q∈pc (lk adj c k) L p,a (b q)=a q:=fun q hq=>by rw[bP q hq]
  have gR:∀ q∈R,a (b q)=b q:=fun q hq=>aR _ (ab.2.to q hq)
  refine⟨⟨fun q hq=>?_,glue (mj:=k) rfl (fun q hq=>?_) (fun q hq r hr z=>?_)⟩,by show a (b p)=p;rw[bP p (bz hp),ap]⟩
  ·show a (b q)=q
   rw[ab.1 q fun z=>hq (mR.mp z).1,aa.1 q fun z=>hq (bg z)]
  ·by_cases a1:q∈pc (lk adj c k) L p
   ·have hg:a (b q)∈pc (lk adj c k) L p:=by rw[gP q a1];exact aa.2.to q a1
    show a (b q)∈L∧Mp adj c (pc (lk adj c k) L q) (pc (lk adj c k) L (a (b q))) (fun q=>a (b q))
    refine⟨bg hg,?_⟩
    rw[fV hs hp (mem_pc.mp a1).2,fV hs hp (mem_pc.mp hg).2]
    exact aa.2.congr gP
   ·have hqR:q∈R:=mR.mpr ⟨hq,a1⟩
    have hbR:=ab.2.to q hqR
    show a (b q)∈L∧Mp adj c (pc (lk adj c k) L q) (pc (lk adj c k) L (a (b q))) (fun q=>a (b q))
    rw[gR q hqR]
    refine⟨(mR.mp hbR).1,?_⟩
    rw[← pR q hqR,← pR _ hbR]
    exact(ab.2.piece nR nR hqR).congr fun r hr=>gR r (bg hr)
  ·have z:Con (lk adj c k) L (a (b q)) (a (b r)):=z
   by_cases a1:q∈pc (lk adj c k) L p
   ·have hg:a (b q)∈pc (lk adj c k) L p:=by rw[gP q a1];exact aa.2.to q a1
    by_cases b1:r∈pc (lk adj c k) L p
    ·exact((mem_pc.mp a1).2.symm hs hp).trans (mem_pc.mp b1).2
    ·have hrR:r∈R:=mR.mpr ⟨hr,b1⟩
     have hbR:=ab.2.to r hrR
     rw[gR r hrR]at z
     exact absurd (mem_pc.mpr ⟨(mR.mp hbR).1,(mem_pc.mp hg).2.trans z⟩) (mR.mp hbR).2
   ·have hqR:q∈R:=mR.mpr ⟨hq,a1⟩
    have hbQ:=ab.2.to q hqR
    rw[gR q hqR]at z
    by_cases b1:r∈pc (lk adj c k) L p
    ·have hg:a (b r)∈pc (lk adj c k) L p:=by rw[gP r b1];exact aa.2.to r b1
     exact absurd (mem_pc.mpr ⟨(mR.mp hbQ).1,(mem_pc.mp hg).2.trans (z.symm hs (mR.mp hbQ).1)⟩) (mR.mp hbQ).2
    ·have hrR:r∈R:=mR.mpr ⟨hr,b1⟩
     rw[gR r hrR]at z
     exact(cR hqR).mp ((ab.2.con_iff nR nR hqR hrR).mp ((cR hbQ).mpr z))
 ·rintro a b a' b' ⟨aa,_⟩ ab ⟨aa',_⟩ ab' e
  have both:∀ q,a q=a' q∧b q=b' q:=fun q=>by
   have eq:a (b q)=a' (b' q):=congrFun e q
   by_cases a1:q∈pc (lk adj c k) L p
   ·rw[ab.1 q (offP a1),ab'.1 q (offP a1)]at eq
    exact⟨eq,by rw[ab.1 q (offP a1),ab'.1 q (offP a1)]⟩
   ·refine⟨by rw[aa.1 q a1,aa'.1 q a1],?_⟩
    by_cases a2:q∈R
    ·rw[aa.1 _ fun z=>offP z (ab.2.to q a2),aa'.1 _ fun z=>offP z (ab'.2.to q a2)]at eq
     exact eq
    ·rw[ab.1 q a2,ab'.1 q a2]
  exact⟨funext fun q=>(both q).1,funext fun q=>(both q).2⟩
theorem yo{L:List Nat}(nL:L.Nodup)(ha:∀ p q,adj p q=adj q p)(hk:∀ x y,k x y=k y x){p:Nat}(hp:p∈L){R O:List Nat}(hR:R=L.filter fun q=> !(pc (lk adj c k) L p).contains q)(nO:O.Nodup)
  (hO:∀ o,o∈O↔o∈L∧∃ h,Mp adj c (pc (lk adj c k) L p) (pc (lk adj c k) L o) h∧h p=o) {m n:Nat}
  (h1:Card (fun a=>Aut adj c (pc (lk adj c k) L p) a∧a p=p) m) (h2:Card (Aut adj c R) n):Card (Aut adj c L) (O.length*(m*n)):=
 rT (zq nL) nO (fun o=>(hO o).trans (vD nL ha hk hp o).symm) (tj nL ha hk hp hR h1 h2)
theorem xb:Card (Aut adj c []) 1:=lD (fun p=>p) fun g=>⟨fun h=>funext fun p=>h.1 p (by simp),fun h=>h▸xJ _⟩
theorem uF{p:Nat}:Card (fun a=>Aut adj c [p] a∧a p=p) 1:=lD (fun p=>p) fun g=>⟨fun h=>funext fun q=>by
  by_cases e:q=p
  ·rw[e,h.2]
  ·exact h.1.1 q (by simpa using e),fun h=>h▸⟨xJ _,rfl⟩⟩
structure Twin(adj:Nat→Nat→Bool)(c:Nat→Int)(b:Nat)(A:List Nat):Prop where
 edge:∀ p∈A,∀ q∈A,adj (p+b) (q+b)=adj p q
 col:∀ p∈A,c (p+b)=c p
theorem Twin.mp{b:Nat}{A:List Nat}(T:Twin adj c b A){g:Nat→Nat}:Mp adj c A (A.map (· +b)) (fun p=>g p+b)↔Mp adj c A A g:=by
 have inA:∀{x:Nat},x+b∈A.map (· +b)↔x∈A:=fun {x}=>by
  rw[mem_map]
  constructor
  ·rintro⟨y,hy,e⟩
   have:y=x:=by omega
   exact this▸hy
  ·exact fun h=>⟨x,h,rfl⟩
 constructor
 ·intro m
  have to:∀ p∈A,g p∈A:=fun p hp=>inA.mp (m.to p hp)
  exact⟨rfl,to,fun p hp q hq e=>m.inj p hp q hq (by rw[e]),fun p hp=>by rw[← T.col _ (to p hp)];exact m.col p hp,fun p hp q hq=>by rw[← T.edge _ (to p hp) _ (to q hq)];exact m.edge p hp q hq⟩
 ·intro m
  exact⟨by rw[length_map],fun p hp=>inA.mpr (m.to p hp),fun p hp q hq e=>m.inj p hp q hq (by have:g p+b=g q+b:=e;omega),fun p hp=>by rw[T.col _ (m.to p hp)];exact m.col p hp,fun p hp q hq=>by rw[T.edge _ (m.to p hp) _ (m.to q hq)];exact m.edge p hp q hq⟩
theorem Twin.two{b:Nat}{P J:List Nat}{A:List Nat}(T:Twin adj c b A)(hJ:∀ q∈J,q∈A){g:Nat→Nat}:Mp adj c P (J.map (· +b)) g↔Mp adj c P J (fun p=>g p - b)∧∀ p∈P,b≤g p:=by
 have mem:∀{x:Nat},x∈J.map (· +b)↔b≤x∧x - b∈J:=fun {x}=>by
  rw[mem_map]
  constructor
  ·rintro⟨y,hy,e⟩
   have e':y+b=x:=e
   exact⟨by omega,by rw[show x - b=y by omega];exact hy⟩
  ·rintro⟨h,hy⟩
   exact⟨x - b,hy,by omega⟩
 constructor
 ·intro m
  have le:∀ p∈P,b≤g p:=fun p hp=>(mem.mp (m.to p hp)).1
  have to:∀ p∈P,g p - b∈J:=fun p hp=>(mem.mp (m.to p hp)).2
  have back:∀ p∈P,g p - b+b=g p:=fun p hp=>by have:=le p hp;omega
  refine⟨⟨by rw[m.len,length_map],to,fun p hp q hq e=>m.inj p hp q hq ?_,fun p hp=>?_,fun p hp q hq=>?_⟩,le⟩
  ·have h1:=le p hp
   have h2:=le q hq
   have e':g p - b=g q - b:=e
   omega
  ·rw[← T.col _ (hJ _ (to p hp)),back p hp]
   exact m.col p hp
  ·rw[← T.edge _ (hJ _ (to p hp)) _ (hJ _ (to q hq)),back p hp,back q hq]
   exact m.edge p hp q hq
 ·rintro⟨m,le⟩
  have back:∀ p∈P,g p - b+b=g p:=fun p hp=>by have:=le p hp;omega
  refine⟨by rw[m.len,length_map],fun p hp=>mem.mpr ⟨le p hp,m.to p hp⟩,fun p hp q hq e=>m.inj p hp q hq (by show g p - b=g q - b;rw[e]),fun p hp=>?_,fun p hp q hq=>?_⟩
  ·rw[← m.col p hp,← T.col _ (hJ _ (m.to p hp))]
   show c (g p)=c (g p - b+b)
   rw[back p hp]
  ·rw[← m.edge p hp q hq,← T.edge _ (hJ _ (m.to p hp)) _ (hJ _ (m.to q hq))]
   show adj (g p) (g q)=adj (g p - b+b) (g q - b+b)
   rw[back p hp,back q hq]
theorem Twin.deepest{b:Nat}{A:List Nat}(T:Twin adj c b A){d:Nat→Int}(D:Deepest adj c d A (A.map (· +b))):Twin adj d b A:=
 ⟨T.edge,fun p hp=>(D.maps _ (T.mp.mpr (Mp.id adj c A))).col p hp⟩
theorem ue{b:Nat}{P:List Nat}(T:Twin adj c b P){p:Nat}(hp:p∈P)(nn:∀ q∈P++P.map (· +b),0≤c q)(dis:∀ q∈P,q∉P.map (· +b)){d:Nat→Int}(D:Deepest adj (chosen c p (p+b)) d P (P.map (· +b)))(g:Nat→Nat):(Aut adj c P g∧g p=p)↔Aut adj d P g:=by
 have hv:p+b∈P.map (· +b):=mem_map.mpr ⟨p,hp,rfl⟩
 have key:=D.put nn dis hp hv (T.col p hp).symm (g:=fun q=>g q+b)
 have id1:=(D.put nn dis hp hv (T.col p hp).symm (g:=fun q=>q+b)).mpr ⟨T.mp.mpr (Mp.id adj c P),rfl⟩
 have Td:Twin adj d b P:=⟨T.edge,fun q hq=>id1.col q hq⟩
 rw[Td.mp,T.mp]at key
 unfold Aut
 constructor
 ·rintro⟨⟨a1,a2⟩,e⟩
  exact⟨a1,key.mpr ⟨a2,by rw[e]⟩⟩
 ·rintro⟨a1,a2⟩
  obtain⟨k1,k2⟩:=key.mp a2
  exact⟨⟨a1,k1⟩,by have:g p+b=p+b:=k2;omega⟩
theorem yW{G:Graph}(i:Nat):Grp (fun g=>(∀ p,¬ p<G.n→g p=p)∧Iso G G g∧∀ j,j<i→g j=j):=by
 refine⟨fun {g h} a b=>⟨fun p hp=>by show g (h p)=p;rw[b.1 p hp,a.1 p hp],b.2.1.trans a.2.1,fun j hj=>by show g (h j)=j;rw[b.2.2 j hj,a.2.2 j hj]⟩,fun {g} a=>?_⟩
 obtain⟨h,m,h1,h2⟩:=a.2.1.symm
 let h':Nat→Nat:=fun p=>if p<G.n then h p else p
 have k1:∀ p,p<G.n→h' p=h p:=fun p hp=>if_pos hp
 have k2:∀ p,¬ p<G.n→h' p=p:=fun p hp=>if_neg hp
 have l1:∀ p,h' (g p)=p:=fun p=>by
  by_cases hp:p<G.n
  ·rw[k1 _ (a.2.1.lt p hp),h1 p hp]
  ·rw[a.1 p hp,k2 p hp]
 refine⟨h',⟨k2,⟨rfl,fun u hu=>by rw[k1 u hu];exact m.lt u hu,fun u v hu hv e=>m.inj u v hu hv (by rw[← k1 u hu,← k1 v hv];exact e),fun u v hu hv=>by rw[k1 u hu,k1 v hv];exact m.edge u v hu hv⟩,fun j hj=>?_⟩,l1,fun p=>?_⟩
 ·have:=l1 j
  rw[a.2.2 j hj]at this
  exact this
 ·by_cases hp:p<G.n
  ·rw[k1 p hp,h2 p hp]
  ·rw[k2 p hp,a.1 p hp]
theorem w9{G:Graph}(fG:Fine G):Card (fun g=>(∀ p,¬ p<G.n→g p=p)∧Iso G G g) (movingsOf G):=by
 have step:∀ i,i≤G.n→∀ m,Card (fun g=>(∀ p,¬ p<G.n→g p=p)∧Iso G G g∧∀ j,j<i→g j=j) m→Card (fun g=>(∀ p,¬ p<G.n→g p=p)∧Iso G G g) ((List.range i).foldl (fun m i=>m*spots G i) 1*m):=by
  intro i
  induction i with
  |zero=>
   intro _ m h
   rw[show(List.range 0).foldl (fun m i=>m*spots G i) 1*m=m by simp]
   exact h.congr fun g=>⟨fun a=>⟨a.1,a.2,fun j hj=>by omega⟩,fun a=>⟨a.1,a.2.1⟩⟩
  |succ i ih=>
   intro hi m h
   have hin:i<G.n:=hi
   let O:=(List.range G.n).filter fun v=>moves G (colours G G G.n) (points G) (List.range i) v
   have hO:∀ o,o∈O↔∃ g,((∀ p,¬ p<G.n→g p=p)∧Iso G G g∧∀ j,j<i→g j=j)∧g i=o:=fun o=>by
    rw[mem_filter,mem_range]
    constructor
    ·rintro⟨ho,hm⟩
     obtain⟨g,ig,g1,g2⟩:=(ll fG _ hin ho).mp hm
     refine⟨fun p=>if p<G.n then g p else p,⟨fun p hp=>if_neg hp,⟨rfl,fun u hu=>by rw[if_pos hu];exact ig.lt u hu,fun u v hu hv e=>ig.inj u v hu hv (by simpa [hu,hv]using e),fun u v hu hv=>by rw[if_pos hu,if_pos hv];exact ig.edge u v hu hv⟩,fun j hj=>by show(if _ then _ else _)=_;rw[if_pos (by omega)];exact g1 j hj⟩,?_⟩
     show(if _ then _ else _)=_
     rw[if_pos hin]
     exact g2
    ·rintro⟨g,⟨_,ig,g1⟩,rfl⟩
     exact⟨ig.lt i hin,(ll fG _ hin (ig.lt i hin)).mpr ⟨g,ig,g1,rfl⟩⟩
   have k:=rT (yW (G:=G) i) (List.Nodup.sublist filter_sublist nodup_range) hO (m:=m) (h.congr fun g=>⟨fun⟨⟨a,b,d⟩,e⟩=>⟨a,b,fun j hj=>by
     rcases lt_or_eq_of_le (Nat.le_of_lt_succ hj)with z|z
     ·exact d j z
     ·rw[z,e]⟩,fun⟨a,b,d⟩=>⟨⟨a,b,fun j hj=>d j (by omega)⟩,d i (by omega)⟩⟩)
   have k2:=ih (by omega) _ k
   rw[range_succ,List.foldl_append]
   show Card _ ((List.range i).foldl (fun m i=>m*spots G i) 1*spots G i*m)
   rw[mul_assoc]
   exact k2
 have last:=step G.n (le_refl _) 1 (lD (fun p=>p) fun g=>⟨fun h=>funext fun p=>by
   by_cases hp:p<G.n
   ·exact h.2.2 p hp
   ·exact h.1 p hp,fun h=>h▸⟨fun _ _=>rfl,Iso.id G,fun _ _=>rfl⟩⟩)
 rw[mul_one]at last
 exact last
def S(n:Nat)(f:Nat→Nat):Nat:=((List.range n).map f).sum
theorem xt(f:Nat→Nat):S 0 f=0:=rfl
theorem cH(n:Nat)(f:Nat→Nat):S (n+1) f=S n f+f n:=by
 unfold S
 rw[range_succ,map_append,List.sum_append]
 simp
theorem bF{n:Nat}{f g:Nat→Nat}(h:∀ i,i<n→f i=g i):S n f=S n g:=by
 unfold S
 rw[map_congr_left fun i hi=>h i (mem_range.mp hi)]
theorem S_add(n:Nat)(f g:Nat→Nat):S n (fun i=>f i+g i)=S n f+S n g:=by
 induction n with
 |zero=>rfl
 |succ n ih=>rw[cH,cH,cH,ih];omega
theorem qo(n:Nat):S n (fun _=>0)=0:=by
 induction n with
 |zero=>rfl
 |succ n ih=>rw[cH,ih]
theorem zR(n c:Nat)(f:Nat→Nat):S n (fun i=>c*f i)=c*S n f:=by
 induction n with
 |zero=>rfl
 |succ n ih=>rw[cH,cH,ih,Nat.mul_add]
theorem wX(n c:Nat)(f:Nat→Nat):S n (fun i=>f i*c)=S n f*c:=by
 induction n with
 |zero=>simp[xt]
 |succ n ih=>rw[cH,cH,ih,add_mul]
theorem wW(n m:Nat)(f:Nat→Nat→Nat):S n (fun i=>S m (f i))=S m (fun j=>S n fun i=>f i j):=by
 induction n with
 |zero=>rw[xt];exact(qo m).symm
 |succ n ih=>
  rw[cH,ih,← S_add]
  exact bF fun j _=>(cH n _).symm
theorem uX(n L:Nat)(f:Nat→Nat):S n (fun i=>f i % L) % L=S n f % L:=by
 induction n with
 |zero=>rfl
 |succ n ih=>rw[cH,cH,add_mod,ih,Nat.mod_mod,← add_mod]
theorem tG{n L:Nat}{f g:Nat→Nat}(h:∀ i,i<n→f i % L=g i % L):S n f % L=S n g % L:=by
 rw[← uX,bF h,uX]
theorem vy{n:Nat}{v:Nat}(hv:v<n)(f:Nat→Nat):S n (fun t=>f t*(if t=v then 1 else 0))=f v:=by
 induction n with
 |zero=>omega
 |succ n ih=>
  rw[cH]
  by_cases e:v=n
  ·subst e
   rw[if_pos rfl,bF (g:=fun _=>0) (fun i hi=>by rw[if_neg (by omega)];rfl),qo]
   omega
  ·rw[ih (by omega),if_neg (by omega)]
   omega
def E(G:Graph)(u v:Nat):Nat:=if edge G u v=true then 1 else 0
def W(G:Graph):Nat→Nat→Nat→Nat
 |0,u,v=>if u=v then 1 else 0
 |k+1,u,v=>S G.n fun t=>W G k u t*E G t v
theorem E_sym{G:Graph}(h:Fine G)(u v:Nat):E G u v=E G v u:=by unfold E;rw[h.both]
theorem iT(G:Graph)(u:Nat)(f:Nat→Nat):((near G u).map f).sum=S G.n fun v=>E G u v*f v:=by
 unfold near points S
 generalize List.range G.n=l
 induction l with
 |nil=>rfl
 |cons a l ih=>
  rw[map_cons,sum_cons,← ih,filter_cons]
  unfold E
  by_cases h:edge G u a=true
  ·rw[if_pos h,if_pos h,map_cons,sum_cons]
   omega
  ·rw[if_neg h,if_neg h]
   omega
theorem eX(G:Graph)(x:List Nat):(spread G x).length=G.n:=by simp[spread,points]
theorem jy(G:Graph):∀(k:Nat) (x:List Nat),x.length=G.n→(spreads G k x).length=G.n
 |0,x,h=>h
 |k+1,x,h=>jy G k _ (eX G x)
theorem lj(G:Graph)(x:List Nat){u:Nat}(hu:u<G.n):(spread G x).getD u 0=S G.n fun v=>E G u v*x.getD v 0:=by
 unfold spread points
 rw[getD_eq_getElem?_getD,List.getElem?_map,List.getElem?_range hu]
 show((near G u).map fun v=>x.getD v 0).sum=_
 rw[iT]
theorem fR(G:Graph):∀(k:Nat) (x:List Nat) {u:Nat},u<G.n→(spreads G k x).getD u 0=S G.n fun v=>W G k u v*x.getD v 0
 |0,x,u,hu=>by
  show x.getD u 0=S G.n fun v=>(if u=v then 1 else 0)*x.getD v 0
  rw[bF (g:=fun v=>x.getD v 0*(if v=u then 1 else 0)) fun i _=>by rw[mul_comm];simp only[eq_comm],vy hu]
 |k+1,x,u,hu=>by
  show(spreads G k (spread G x)).getD u 0=S G.n fun v=>(S G.n fun t=>W G k u t*E G t v)*x.getD v 0
  rw[fR G k _ hu,bF fun v hv=>by rw[lj G x hv,← zR],wW]
  refine bF fun v _=>?_
  rw[← wX]
  exact bF fun t _=>by rw[mul_assoc]
theorem tE:∀(x:List Nat),x.sum=S x.length fun i=>x.getD i 0:=by
 intro x
 conv=>lhs;rw[bT x]
 rfl
theorem ua(G:Graph)(k:Nat):walksOf G k=S G.n fun u=>S G.n fun v=>W G k u v:=by
 unfold walksOf
 have hl:((points G).map fun _=>1).length=G.n:=by simp[points]
 rw[tE,jy G k _ hl]
 refine bF fun u hu=>?_
 rw[fR G k _ hu]
 refine bF fun v hv=>?_
 have:((points G).map fun _=>1).getD v 0=1:=by
  unfold points
  rw[getD_eq_getElem?_getD,List.getElem?_map,List.getElem?_range hv]
  rfl
 rw[this,mul_one]
theorem ph(G:Graph)(k:Nat):circlesOf G k=S G.n fun u=>W G k u u:=by
 unfold circlesOf
 show S G.n _=_
 refine bF fun u hu=>?_
 rw[fR G k _ hu,← vy hu (W G k u)]
 refine bF fun v hv=>?_
 have:((points G).map fun v=>if v=u then 1 else 0).getD v 0=if v=u then 1 else 0:=by
  unfold points
  rw[getD_eq_getElem?_getD,List.getElem?_map,List.getElem?_range hv]
  rfl
 rw[this]
theorem xY(G:Graph)(a:Nat){v:Nat}:∀(b:Nat) {u:Nat},(hv:v<G.n)→W G (a+b) u v=S G.n fun t=>W G a u t*W G b t v
 |0,u,hv=>(vy hv (W G a u)).symm
 |b+1,u,hv=>by
  show(S G.n fun t=>W G (a+b) u t*E G t v)=S G.n fun t=>W G a u t*S G.n fun s=>W G b t s*E G s v
  rw[bF (g:=fun t=>S G.n fun s=>W G a u s*W G b s t*E G t v) fun t ht=>by rw[xY G a b ht,wX],wW]
  refine bF fun s _=>?_
  rw[← zR]
  exact bF fun t _=>by rw[mul_assoc]
theorem zQ(G:Graph){u v:Nat}(hu:u<G.n):W G 1 u v=E G u v:=by
 show(S G.n fun t=>(if u=t then 1 else 0)*E G t v)=_
 rw[bF (g:=fun t=>E G t v*(if t=u then 1 else 0)) fun i _=>by rw[mul_comm];simp only[eq_comm],vy hu]
theorem zI{G:Graph}(fG:Fine G):∀(k:Nat) {u v:Nat},u<G.n→v<G.n→W G k u v=W G k v u
 |0,u,v,_,_=>by
  show(if u=v then 1 else 0)=if v=u then 1 else 0
  simp only[eq_comm]
 |k+1,u,v,hu,hv=>by
  rw[show W G (k+1) v u=W G (1+k) v u by rw[add_comm],xY G 1 k hu]
  show(S G.n fun t=>W G k u t*E G t v)=_
  refine bF fun t ht=>?_
  rw[zQ G hv,zI fG k hu ht,E_sym fG t v,mul_comm]
theorem AB{G:Graph}(fG:Fine G){L a d:Nat}{f g:Nat→Nat→Nat}(hf:∀ u v,u<G.n→v<G.n→f u v=W G a u v % L)(hg:∀ u v,u<G.n→v<G.n→g u v=W G d u v % L){u v:Nat}(hu:u<G.n)(hv:v<G.n):
  (S G.n fun t=>g v t*f u t) % L=W G (a+d) u v % L:=by
 rw[xY G a d hv]
 refine tG fun t ht=>?_
 rw[hf u t hu ht,hg v t hv ht,zI fG d hv ht,mul_comm,← mul_mod]
def mD(G:Graph)(l:List Nat)(hs:List (List Nat))(i:Nat):List (List Nat):=
 hs.set (l.getD i 0) (((hs.getD (l.getD i 0) []).zip (spread G (hs.getD (i+1) []))).map fun x=>x.1*x.2)
def bO(L:Nat)(G:Graph)(l:List Nat)(hs:List (List Nat))(i:Nat):List (List Nat):=
 hs.set (l.getD i 0) (((hs.getD (l.getD i 0) []).zip ((spread G (hs.getD (i+1) [])).map (· % L))).map fun x=>x.1*x.2 % L)
def md(L:Nat)(hs:List (List Nat)):List (List Nat):=hs.map fun x=>x.map (· % L)
theorem vH(L:Nat)(hs:List (List Nat))(i:Nat):(md L hs).getD i []=(hs.getD i []).map (· % L):=by
 unfold md
 rw[getD_eq_getElem?_getD,getD_eq_getElem?_getD,List.getElem?_map]
 cases hs[i]?<;>rfl
theorem vX(L:Nat)(G:Graph)(x:List Nat):(spread G (x.map (· % L))).map (· % L)=(spread G x).map (· % L):=by
 unfold spread
 rw[map_map,map_map]
 refine map_congr_left fun u _=>?_
 show((near G u).map fun v=>(x.map (· % L)).getD v 0).sum % L=((near G u).map fun v=>x.getD v 0).sum % L
 rw[iT,iT]
 refine tG fun v _=>?_
 have:(x.map (· % L)).getD v 0=x.getD v 0 % L:=by
  rw[getD_eq_getElem?_getD,getD_eq_getElem?_getD,List.getElem?_map]
  cases x[v]?<;>simp
 rw[this,mul_mod,Nat.mod_mod,← mul_mod]
theorem wZ(L:Nat):∀(x y:List Nat),((x.map (· % L)).zip (y.map (· % L))).map (fun z=>z.1*z.2 % L)=((x.zip y).map fun z=>z.1*z.2).map (· % L)
 |[],y=>by simp
 |a::x,[]=>by simp
 |a::x,b::y=>by
  simp only[map_cons,List.zip_cons_cons]
  rw[wZ L x y]
  congr 1
  show a % L*(b % L) % L=a*b % L
  rw[← mul_mod]
theorem zk(L:Nat)(G:Graph)(l:List Nat)(hs:List (List Nat))(i:Nat):bO L G l (md L hs) i=md L (mD G l hs i):=by
 unfold bO mD
 rw[vH,vH,vX,wZ]
 unfold md
 rw[List.map_set]
theorem vx(L:Nat)(G:Graph)(l:List Nat):∀(is:List Nat) (hs:List (List Nat)),is.foldl (bO L G l) (md L hs)=md L (is.foldl (mD G l) hs)
 |[],hs=>rfl
 |i::is,hs=>by
  rw[foldl_cons,foldl_cons,zk,vx]
theorem ve(L:Nat):∀ x:List Nat,(x.map (· % L)).sum % L=x.sum % L
 |[]=>rfl
 |a::x=>by
  rw[map_cons,sum_cons,sum_cons,add_mod,ve L x,Nat.mod_mod,← add_mod]
theorem qY{L:Nat}(hL:1<L)(G:Graph)(l:List Nat):treesOf l G % L=(((List.range l.length).reverse.foldl (bO L G l) ((List.range (l.length+1)).map fun _=>(points G).map fun _=>1)).headD []).sum % L:=by
 have h0:((List.range (l.length+1)).map fun _=>(points G).map fun _=>1)=md L ((List.range (l.length+1)).map fun _=>(points G).map fun _=>1):=by
  unfold md
  rw[map_map]
  refine map_congr_left fun i _=>?_
  show _=((points G).map fun _=>1).map (· % L)
  rw[map_map]
  refine map_congr_left fun u _=>?_
  show 1=1 % L
  rw[Nat.mod_eq_of_lt hL]
 rw[h0,vx]
 have hh:∀ hs:List (List Nat),(md L hs).headD []=(hs.headD []).map (· % L):=fun hs=>by cases hs<;>rfl
 rw[hh,ve]
 rfl
theorem zf{adj:Nat→Nat→Bool}{N:Nat}{nb:List Nat}{x:Nat}(nd:nb.Nodup)(h:∀ y,y∈nb↔y<N∧adj x y=true)(c:Nat→Int)(z:Int):nx adj c (List.range N) x z=nb.countP (fun w=>c w==z):=by
 unfold nx
 have e:(List.range N).countP (fun o=>adj x o&&c o==z)=((List.range N).filter (adj x)).countP (fun w=>c w==z):=by
  rw[List.countP_filter]
  refine countP_congr fun o _=>?_
  rw[Bool.and_comm]
 rw[e]
 refine List.Perm.countP_eq _ ((perm_ext_iff_of_nodup (List.Nodup.sublist filter_sublist nodup_range) nd).mpr fun y=>?_)
 rw[mem_filter,mem_range,h y]
theorem dv{adj:Nat→Nat→Bool}{L:List Nat}(k p:Nat):0≤cs adj L (fun _=>0) k p:=by
 cases k with
 |zero=>exact Int.le_refl 0
 |succ k=>exact rM p
theorem xn{adj:Nat→Nat→Bool}{N:Nat}{nb:Nat→List Nat}(nd:∀ x,x<N→(nb x).Nodup)(h:∀ x,x<N→∀ y,y∈nb x↔y<N∧adj x y=true):Ref N nb (fun k x=>(cs adj (List.range N) (fun _=>0) k x).toNat) where
 sub:=fun x hx y hy=>((h x hx y).mp hy).1
 zero:=fun _ _ _ _=>rfl
 succ:=fun k x y hx hy=>by
  have tn:∀(k x y:Nat),((cs adj (List.range N) (fun _=>0) k x).toNat=(cs adj (List.range N) (fun _=>0) k y).toNat↔cs adj (List.range N) (fun _=>0) k x=cs adj (List.range N) (fun _=>0) k y):=fun k x y=>by
   have h1:=dv (adj:=adj) (L:=List.range N) k x
   have h2:=dv (adj:=adj) (L:=List.range N) k y
   omega
  show((cs adj (List.range N) (fun _=>0) (k+1) x).toNat=(cs adj (List.range N) (fun _=>0) (k+1) y).toNat)↔((cs adj (List.range N) (fun _=>0) k x).toNat=(cs adj (List.range N) (fun _=>0) k y).toNat)∧_
  rw[tn,tn]
  show bw adj (List.range N) (cs adj (List.range N) (fun _=>0) k) x=bw adj (List.range N) (cs adj (List.range N) (fun _=>0) k) y↔_
  rw[bu (mem_range.mpr hx) (mem_range.mpr hy)]
  unfold Like
  refine and_congr_right fun _=>?_
  have key:∀(x:Nat),x<N→∀ z:Int,nx adj (cs adj (List.range N) (fun _=>0) k) (List.range N) x z=(nb x).countP (fun w=>cs adj (List.range N) (fun _=>0) k w==z):=fun x hx z=>zf (nd x hx) (h x hx) _ z
  have key2:∀(x z:Nat),(nb x).countP (fun w=>(cs adj (List.range N) (fun _=>0) k w).toNat==z)=(nb x).countP (fun w=>cs adj (List.range N) (fun _=>0) k w==(z:Int)):=fun x z=>by
   refine countP_congr fun w _=>?_
   rw[beq_iff_eq,beq_iff_eq]
   have:=dv (adj:=adj) (L:=List.range N) k w
   omega
  constructor
  ·intro e z
   rw[key2,key2,← key x hx,← key y hy]
   exact e z
  ·intro e z
   rw[key x hx,key y hy]
   by_cases hz:0≤z
   ·have:=e z.toNat
    rw[key2,key2]at this
    rw[show((z.toNat:Nat):Int)=z by omega]at this
    exact this
   ·have none:∀ x,(nb x).countP (fun w=>cs adj (List.range N) (fun _=>0) k w==z)=0:=fun x=>by
     rw[countP_eq_zero]
     intro w _ q
     rw[beq_iff_eq]at q
     have:=dv (adj:=adj) (L:=List.range N) k w
     omega
    rw[none,none]
open Classical in
theorem canon{adj:Nat→Nat→Bool}{N:Nat}:∀(k:Nat) {p:Nat},p<N→∃ q,q<N∧cs adj (List.range N) (fun _=>0) k p=(q:Int)∧cs adj (List.range N) (fun _=>0) k q=cs adj (List.range N) (fun _=>0) k p∧∀ w,w<q→cs adj (List.range N) (fun _=>0) k w≠cs adj (List.range N) (fun _=>0) k p
 |0,p,hp=>⟨0,by omega,rfl,rfl,fun w hw=>by omega⟩
 |k+1,p,hp=>by
  obtain⟨q,hq,e,eq,lq⟩:=gX (adj:=adj) (c:=cs adj (List.range N) (fun _=>0) k) (mem_range.mpr hp)
  have hqN:=mem_range.mp hq
  refine⟨q,hqN,eq,(bu hq (mem_range.mpr hp)).mpr lq,fun w hw z=>?_⟩
  have hwN:w<N:=by omega
  have lw:=(bu (mem_range.mpr hwN) (mem_range.mpr hp)).mp z
  obtain⟨v,e',_,_,hv⟩:=ie (p:=fun q=>decide (Like adj (cs adj (List.range N) (fun _=>0) k) (List.range N) q p)) hwN (decide_eq_true lw)
  rw[e]at e'
  have:q=v:=Option.some.inj e'
  subst this
  have:=hv w hw
  rw[decide_eq_true lw]at this
  cases this
theorem rest_iff{adj:Nat→Nat→Bool}{N:Nat}(k:Nat):dH N (fun k x=>(cs adj (List.range N) (fun _=>0) k x).toNat) k↔∀ p,p<N→cs adj (List.range N) (fun _=>0) (k+1) p=cs adj (List.range N) (fun _=>0) k p:=by
 have tn:∀(k x y:Nat),((cs adj (List.range N) (fun _=>0) k x).toNat=(cs adj (List.range N) (fun _=>0) k y).toNat↔cs adj (List.range N) (fun _=>0) k x=cs adj (List.range N) (fun _=>0) k y):=fun k x y=>by
  have h1:=dv (adj:=adj) (L:=List.range N) k x
  have h2:=dv (adj:=adj) (L:=List.range N) k y
  omega
 constructor
 ·intro h p hp
  have h':∀ x y,x<N→y<N→cs adj (List.range N) (fun _=>0) k x=cs adj (List.range N) (fun _=>0) k y→cs adj (List.range N) (fun _=>0) (k+1) x=cs adj (List.range N) (fun _=>0) (k+1) y:=fun x y hx hy e=>(tn _ _ _).mp (h x y hx hy ((tn _ _ _).mpr e))
  have dn:∀ x y,x<N→y<N→cs adj (List.range N) (fun _=>0) (k+1) x=cs adj (List.range N) (fun _=>0) (k+1) y→cs adj (List.range N) (fun _=>0) k x=cs adj (List.range N) (fun _=>0) k y:=fun x y hx hy e=>((bu (mem_range.mpr hx) (mem_range.mpr hy)).mp e).1
  obtain⟨q,hq,e1,e2,e3⟩:=canon (adj:=adj) k hp
  obtain⟨r,hr,f1,f2,f3⟩:=canon (adj:=adj) (k+1) hp
  have:q=r:=by
   rcases lt_trichotomy q r with z|z|z
   ·exact absurd (h' q p hq hp e2) (f3 q z)
   ·exact z
   ·exact absurd (dn r p hr hp f2) (e3 r z)
  rw[e1,f1,this]
 ·intro h x y hx hy e
  have e':=(tn _ _ _).mp e
  refine(tn _ _ _).mpr ?_
  rw[h x hx,h y hy]
  exact e'
structure qb(adj:Nat→Nat→Bool)(N r:Nat):Prop where
 rest:∀ p,p<N→cs adj (List.range N) (fun _=>0) (r+1) p=cs adj (List.range N) (fun _=>0) r p
 not:∀ k,k<r→∃ p,p<N∧cs adj (List.range N) (fun _=>0) (k+1) p≠cs adj (List.range N) (fun _=>0) k p
theorem w8{P:Nat→Prop}:∀ n,P n→∃ r,r≤n∧P r∧∀ k,k<r→¬ P k:=by
 intro n
 induction n using Nat.strongRecOn with
 |_ n ih=>
  intro h
  by_cases q:∃ k,k<n∧P k
  ·obtain⟨k,hk,pk⟩:=q
   obtain⟨r,a,b,d⟩:=ih k hk pk
   exact⟨r,by omega,b,d⟩
  ·exact⟨n,le_refl _,h,fun k hk pk=>q ⟨k,hk,pk⟩⟩
theorem qe{adj:Nat→Nat→Bool}{N:Nat}{nb:Nat→List Nat}(R:Ref N nb (fun k x=>(cs adj (List.range N) (fun _=>0) k x).toNat)):∃ r,r≤N∧qb adj N r:=by
 have one:∃ k,k≤N∧∀ p,p<N→cs adj (List.range N) (fun _=>0) (k+1) p=cs adj (List.range N) (fun _=>0) k p:=by
  by_cases h:0<N
  ·obtain⟨k,hk,hr⟩:=R.ends h
   exact⟨k,by omega,(rest_iff k).mp hr⟩
  ·exact⟨0,by omega,fun p hp=>by omega⟩
 obtain⟨k,hk,h⟩:=one
 obtain⟨r,a,b,d⟩:=w8 (P:=fun k=>∀ p,p<N→cs adj (List.range N) (fun _=>0) (k+1) p=cs adj (List.range N) (fun _=>0) k p) k h
 refine⟨r,by omega,b,fun j hj=>?_⟩
 refine Classical.byContradiction fun q=>d j hj fun p hp=>Classical.byContradiction fun z=>q ⟨p,hp,z⟩
theorem kc(G:Graph):Ref G.n (near G) (fun k x=>(cs (edge G) (List.range G.n) (fun _=>0) k x).toNat):=xn (fun x _=>gY G x) fun x _ y=>mem_near
theorem sT{G:Graph}{r:Nat}(s:qb (edge G) G.n r):roundsOf G=r:=
 jT (kc G) ((rest_iff r).mpr s.rest) fun j hj h=>by
  obtain⟨p,hp,z⟩:=s.not j hj
  exact z ((rest_iff j).mp h p hp)
theorem qC{G:Graph}{r:Nat}(s:qb (edge G) G.n r):(classesOf G).map (fun v:Nat=>(v:Int))=(List.range G.n).map (cs (edge G) (List.range G.n) (fun _=>0) r):=by
 refine ext_getElem? fun u=>?_
 rw[List.getElem?_map,List.getElem?_map]
 by_cases hu:u<G.n
 ·obtain⟨v,e,hv,e1,e2⟩:=mE (kc G) (.inr ((rest_iff r).mpr s.rest)) hu
  obtain⟨q,hq,f1,f2,f3⟩:=canon (adj:=edge G) r hu
  rw[e,List.getElem?_range hu]
  show some (v:Int)=some _
  rw[f1]
  congr 2
  have tn:∀(x y:Nat),((cs (edge G) (List.range G.n) (fun _=>0) r x).toNat=(cs (edge G) (List.range G.n) (fun _=>0) r y).toNat↔cs (edge G) (List.range G.n) (fun _=>0) r x=cs (edge G) (List.range G.n) (fun _=>0) r y):=fun x y=>by
   have h1:=dv (adj:=edge G) (L:=List.range G.n) r x
   have h2:=dv (adj:=edge G) (L:=List.range G.n) r y
   omega
  rcases lt_trichotomy v q with z|z|z
  ·exact absurd ((tn v u).mp e1.symm) (f3 v z)
  ·exact z
  ·exact absurd ((tn q u).mpr f2) (e2 q z)
 ·rw[List.getElem?_eq_none (by rw[jh];omega),List.getElem?_eq_none (by rw[length_range];omega)]
  rfl
def uadj(G H:Graph)(p q:Nat):Bool:=decide (q∈un G H p)
theorem Ah{G H:Graph}{p q:Nat}:q∈un G H p↔(p<G.n∧q<G.n∧edge G p q=true)∨(G.n≤p∧G.n≤q∧q - G.n<H.n∧edge H (p - G.n) (q - G.n)=true):=by
 unfold un
 by_cases h:p<G.n
 ·rw[if_pos h,mem_near]
  constructor
  ·exact fun z=> .inl ⟨h,z.1,z.2⟩
  ·rintro(z|z)
   ·exact⟨z.2.1,z.2.2⟩
   ·omega
 ·rw[if_neg h,mem_map]
  constructor
  ·rintro⟨a,ha,e⟩
   have e':a+G.n=q:=e
   obtain⟨h1,h2⟩:=mem_near.mp ha
   refine .inr ⟨by omega,by omega,by omega,?_⟩
   rw[show q - G.n=a by omega]
   exact h2
  ·rintro(z|z)
   ·omega
   ·exact⟨q - G.n,mem_near.mpr ⟨z.2.2.1,z.2.2.2⟩,by omega⟩
theorem uadj_iff{G H:Graph}{p q:Nat}:uadj G H p q=true↔(p<G.n∧q<G.n∧edge G p q=true)∨(G.n≤p∧G.n≤q∧q - G.n<H.n∧edge H (p - G.n) (q - G.n)=true):=by
 unfold uadj
 rw[decide_eq_true_iff,Ah]
def img(G H:Graph):List Nat:=(List.range H.n).map (· +G.n)
theorem mem_img{G H:Graph}{p:Nat}:p∈img G H↔G.n≤p∧p<G.n+H.n:=by
 unfold img
 rw[mem_map]
 constructor
 ·rintro⟨a,ha,e⟩
  have e':a+G.n=p:=e
  have:=mem_range.mp ha
  omega
 ·rintro⟨a,b⟩
  exact⟨p - G.n,mem_range.mpr (by omega),by omega⟩
theorem y9(G H:Graph):List.range G.n++img G H=List.range (G.n+H.n):=by
 rw[List.range_add]
 unfold img
 congr 1
 exact map_congr_left fun x _=>add_comm _ _
theorem eC{G H:Graph}(fG:Fine G)(fH:Fine H):Sides (uadj G H) (List.range G.n) (img G H) where
 up1:=List.pairwise_lt_range
 up2:=List.pairwise_map.mpr (List.pairwise_lt_range.imp fun h=>by omega)
 irr p:=by
  refine Bool.eq_false_iff.mpr fun z=>?_
  rcases uadj_iff.mp z with⟨_,_,z⟩|⟨_,_,_,z⟩
  ·rw[fG.none_]at z;cases z
  ·rw[fH.none_]at z;cases z
 sym p q:=by
  refine Bool.eq_iff_iff.mpr ?_
  have one:∀ p q,uadj G H p q=true→uadj G H q p=true:=fun p q z=>by
   rw[uadj_iff]at z ⊢
   rcases z with⟨a,b,z⟩|⟨a,b,d,z⟩
   ·exact .inl ⟨b,a,by rw[fG.both];exact z⟩
   ·exact .inr ⟨b,a,(kh fH z).1,by rw[fH.both];exact z⟩
  exact⟨one p q,one q p⟩
 cross p hp q hq:=by
  refine Bool.eq_false_iff.mpr fun z=>?_
  have h1:=mem_range.mp hp
  have h2:=mem_img.mp hq
  rcases uadj_iff.mp z with⟨_,z,_⟩|⟨z,_⟩<;>omega
 dis p hp hq:=by
  have h1:=mem_range.mp hp
  have h2:=mem_img.mp hq
  omega
theorem j5(G H:Graph):Ref (G.n+H.n) (un G H) (fun k x=>(cs (uadj G H) (List.range (G.n+H.n)) (fun _=>0) k x).toNat):=by
 refine xn (fun x _=>?_) fun x hx y=>?_
 ·unfold un
  by_cases h:x<G.n
  ·rw[if_pos h]
   exact gY G x
  ·rw[if_neg h]
   exact a8 (gY H _) fun u v _ _ e=>by
    have e':u+G.n=v+G.n:=e
    omega
 ·unfold uadj
  rw[decide_eq_true_iff]
  exact⟨fun h=>⟨xH h,h⟩,fun h=>h.2⟩
theorem wA{G H:Graph}{r:Nat}(s:qb (uadj G H) (G.n+H.n) r){u v:Nat}(hu:u<G.n)(hv:v<H.n):
  (apartOf G u H v=none∧∀ k,k≤r→cs (uadj G H) (List.range (G.n+H.n)) (fun _=>0) k u=cs (uadj G H) (List.range (G.n+H.n)) (fun _=>0) k (G.n+v))∨
  ∃ k,k≤r∧apartOf G u H v=some k∧cs (uadj G H) (List.range (G.n+H.n)) (fun _=>0) k u≠cs (uadj G H) (List.range (G.n+H.n)) (fun _=>0) k (G.n+v)∧∀ j,j<k→cs (uadj G H) (List.range (G.n+H.n)) (fun _=>0) j u=cs (uadj G H) (List.range (G.n+H.n)) (fun _=>0) j (G.n+v):=by
 have tn:∀(k x y:Nat),((cs (uadj G H) (List.range (G.n+H.n)) (fun _=>0) k x).toNat=(cs (uadj G H) (List.range (G.n+H.n)) (fun _=>0) k y).toNat↔cs (uadj G H) (List.range (G.n+H.n)) (fun _=>0) k x=cs (uadj G H) (List.range (G.n+H.n)) (fun _=>0) k y):=fun k x y=>by
  have h1:=dv (adj:=uadj G H) (L:=List.range (G.n+H.n)) k x
  have h2:=dv (adj:=uadj G H) (L:=List.range (G.n+H.n)) k y
  omega
 rcases oW (j5 G H) hu hv with⟨e,h⟩|⟨k,e,h1,h2⟩
 ·exact .inl ⟨e,fun k _=>(tn k _ _).mp (h k)⟩
 ·refine .inr ⟨k,?_,e,fun z=>h1 ((tn k _ _).mpr z),fun j hj=>(tn j _ _).mp (h2 j hj)⟩
  refine Classical.byContradiction fun z=>h1 ?_
  have hx:u<G.n+H.n:=by omega
  have hy:G.n+v<G.n+H.n:=by omega
  have:=(j5 G H).stay ((rest_iff r).mpr s.rest) (k - r) u (G.n+v) hx hy
  rw[show r+(k - r)=k by omega]at this
  exact this.mpr (h2 r (by omega))
theorem perm_counts{A B:List Nat}{c:Nat→Int}:(A.map c).Perm (B.map c)↔∀ z:Int,A.countP (fun u=>c u==z)=B.countP (fun u=>c u==z):=by
 rw[List.perm_iff_count]
 refine forall_congr' fun z=>?_
 rw[count_eq_countP,count_eq_countP,countP_map,countP_map]
 rfl
theorem lZ{G H:Graph}{j:Nat}(hj:G.n+H.n≤j∨dH (G.n+H.n) (fun k x=>(cs (uadj G H) (List.range (G.n+H.n)) (fun _=>0) k x).toNat) j):refinedOf G H=true↔((List.range G.n).map (cs (uadj G H) (List.range (G.n+H.n)) (fun _=>0) j)).Perm ((img G H).map (cs (uadj G H) (List.range (G.n+H.n)) (fun _=>0) j)):=by
 rw[l8 (j5 G H) hj]
 have tn:∀(x y:Nat),(((cs (uadj G H) (List.range (G.n+H.n)) (fun _=>0) j x).toNat==(cs (uadj G H) (List.range (G.n+H.n)) (fun _=>0) j y).toNat)=true↔(cs (uadj G H) (List.range (G.n+H.n)) (fun _=>0) j x==cs (uadj G H) (List.range (G.n+H.n)) (fun _=>0) j y)=true):=fun x y=>by
  have h1:=dv (adj:=uadj G H) (L:=List.range (G.n+H.n)) j x
  have h2:=dv (adj:=uadj G H) (L:=List.range (G.n+H.n)) j y
  rw[beq_iff_eq,beq_iff_eq]
  omega
 have im:∀ z:Int,(img G H).countP (fun u=>cs (uadj G H) (List.range (G.n+H.n)) (fun _=>0) j u==z)=(List.range H.n).countP (fun v=>cs (uadj G H) (List.range (G.n+H.n)) (fun _=>0) j (G.n+v)==z):=fun z=>by
  unfold img
  rw[countP_map]
  refine countP_congr fun v _=>?_
  show(cs (uadj G H) (List.range (G.n+H.n)) (fun _=>0) j (v+G.n)==z)=true↔_
  rw[add_comm v]
 rw[perm_counts]
 constructor
 ·rintro⟨_,h⟩ z
  rw[im]
  by_cases hz:∃ x,x<G.n+H.n∧cs (uadj G H) (List.range (G.n+H.n)) (fun _=>0) j x=z
  ·obtain⟨x,hx,rfl⟩:=hz
   have:=h x hx
   rw[countP_congr fun u _=>tn u x,countP_congr fun v _=>tn (G.n+v) x]at this
   exact this
  ·rw[countP_eq_zero.mpr,countP_eq_zero.mpr]
   ·intro v hv q
    rw[beq_iff_eq]at q
    exact hz ⟨G.n+v,by have:=mem_range.mp hv;omega,q⟩
   ·intro v hv q
    rw[beq_iff_eq]at q
    exact hz ⟨v,by have:=mem_range.mp hv;omega,q⟩
 ·intro h
  refine⟨?_,fun x hx=>?_⟩
  ·have:=(perm_counts.mpr h).length_eq
   rw[length_map,length_map,length_range,img,length_map,length_range]at this
   exact this
  ·have:=h (cs (uadj G H) (List.range (G.n+H.n)) (fun _=>0) j x)
   rw[im]at this
   rw[countP_congr fun u _=>tn u x,countP_congr fun v _=>tn (G.n+v) x]
   exact this
theorem uI{adj:Nat→Nat→Bool}{L:List Nat}{c:Nat→Int}{p q:Nat}(hp:p∈L)(hq:q∈L){k:Nat}:∀ j,cs adj L c (k+j) p=cs adj L c (k+j) q→cs adj L c k p=cs adj L c k q
 |0,h=>h
 |j+1,h=>uI hp hq j ((bu hp hq).mp h).1
theorem jK{G H:Graph}{k:Nat}(h:¬((List.range G.n).map (cs (uadj G H) (List.range (G.n+H.n)) (fun _=>0) k)).Perm ((img G H).map (cs (uadj G H) (List.range (G.n+H.n)) (fun _=>0) k))):refinedOf G H=false:=by
 refine Bool.eq_false_iff.mpr fun z=>h ?_
 have:=(lZ (j:=k+(G.n+H.n)) (.inl (by omega))).mp z
 refine zw (adj:=uadj G H) (fun p hp q hq e=>?_) this
 rw[y9]at hp hq
 exact uI hp hq _ e
theorem tV{adj:Nat→Nat→Bool}{N k:Nat}(h:qV adj (List.range N) (cs adj (List.range N) (fun _=>0) k)):dH N (fun k x=>(cs adj (List.range N) (fun _=>0) k x).toNat) k:=by
 intro x y hx hy e
 have h1:=dv (adj:=adj) (L:=List.range N) k x
 have h2:=dv (adj:=adj) (L:=List.range N) k y
 have e':cs adj (List.range N) (fun _=>0) k x=cs adj (List.range N) (fun _=>0) k y:=by
  have:(cs adj (List.range N) (fun _=>0) k x).toNat=(cs adj (List.range N) (fun _=>0) k y).toNat:=e
  omega
 have:=(bu (mem_range.mpr hx) (mem_range.mpr hy)).mpr ⟨e',h x (mem_range.mpr hx) y (mem_range.mpr hy) e'⟩
 show(cs adj (List.range N) (fun _=>0) (k+1) x).toNat=(cs adj (List.range N) (fun _=>0) (k+1) y).toNat
 exact congrArg Int.toNat this
theorem mp_iso{G H:Graph}{h:Nat→Nat}:Mp (uadj G H) (fun _=>0) (List.range G.n) (img G H) h↔Iso G H (fun u=>h u - G.n)∧∀ u,u<G.n→G.n≤h u:=by
 have ed:∀ u v,G.n≤u→G.n≤v→v<G.n+H.n→uadj G H u v=edge H (u - G.n) (v - G.n):=fun u v h1 h2 h3=>by
  refine Bool.eq_iff_iff.mpr ?_
  rw[uadj_iff]
  constructor
  ·rintro(z|z)
   ·omega
   ·exact z.2.2.2
  ·exact fun z=> .inr ⟨h1,h2,by omega,z⟩
 have ed1:∀ u v,u<G.n→v<G.n→uadj G H u v=edge G u v:=fun u v h1 h2=>by
  refine Bool.eq_iff_iff.mpr ?_
  rw[uadj_iff]
  constructor
  ·rintro(z|z)
   ·exact z.2.2
   ·omega
  ·exact fun z=> .inl ⟨h1,h2,z⟩
 constructor
 ·intro m
  have to:∀ u,u<G.n→G.n≤h u∧h u<G.n+H.n:=fun u hu=>mem_img.mp (m.to u (mem_range.mpr hu))
  refine⟨⟨?_,fun u hu=>by have:=to u hu;show h u - G.n<H.n;omega,fun u v hu hv e=>m.inj u (mem_range.mpr hu) v (mem_range.mpr hv) ?_,fun u v hu hv=>?_⟩,fun u hu=>(to u hu).1⟩
  ·have:=m.len
   rw[length_range,img,length_map,length_range]at this
   exact this
  ·have h1:=to u hu
   have h2:=to v hv
   have e':h u - G.n=h v - G.n:=e
   omega
  ·have:=m.edge u (mem_range.mpr hu) v (mem_range.mpr hv)
   rw[ed1 u v hu hv,ed _ _ (to u hu).1 (to v hv).1 (to v hv).2]at this
   exact this.symm
 ·rintro⟨i,le⟩
  have to:∀ u,u<G.n→G.n≤h u∧h u<G.n+H.n:=fun u hu=>by
   have h1:=le u hu
   have h2:h u - G.n<H.n:=i.lt u hu
   omega
  refine⟨by rw[length_range,img,length_map,length_range];exact i.n,fun u hu=>mem_img.mpr (to u (mem_range.mp hu)),fun u hu v hv e=>i.inj u v (mem_range.mp hu) (mem_range.mp hv) (by show h u - G.n=h v - G.n;rw[e]),fun _ _=>rfl,fun u hu v hv=>?_⟩
  have hu':=mem_range.mp hu
  have hv':=mem_range.mp hv
  rw[ed _ _ (to u hu').1 (to v hv').1 (to v hv').2,ed1 u v hu' hv']
  exact(i.edge u v hu' hv').symm
theorem x6{f g:Nat→Nat}:∀(m s:Nat),(∀ r,r<m→(∀ q,q<r→g (s+q)=f (s+q))→f (s+r)≤g (s+r))→(List.range' s m).map f≤(List.range' s m).map g
 |0,s,_=>List.le_refl _
 |m+1,s,h=>by
  rw[List.range'_succ,map_cons,map_cons,List.cons_le_cons_iff]
  have h0:=h 0 (by omega) fun q hq=>by omega
  rcases lt_or_eq_of_le h0 with z|z
  ·exact .inl z
  ·refine .inr ⟨z,x6 m (s+1) fun r hr ag=>?_⟩
   rw[show s+1+r=s+(r+1) by omega]
   refine h (r+1) (by omega) fun q hq=>?_
   cases q with
   |zero=>exact z.symm
   |succ q=>
    have:=ag q (by omega)
    rw[show s+1+q=s+(q+1) by omega]at this
    exact this
theorem vN{G H:Graph}{h:Nat→Nat}(F:dz (uadj G H) (fun _=>0) (List.range G.n) (img G H) h):FirstMap G H ((List.range G.n).map fun u=>h u - G.n):=by
 obtain⟨i,le⟩:=mp_iso.mp F.mp
 refine⟨⟨_,i,rfl⟩,fun f j=>?_⟩
 rw[List.range_eq_range']
 refine x6 G.n 0 fun r hr ag=>?_
 rw[zero_add]
 have mf:Mp (uadj G H) (fun _=>0) (List.range G.n) (img G H) (fun u=>f u+G.n):=mp_iso.mpr ⟨by
  have e:(fun u=>f u+G.n - G.n)=f:=funext fun u=>by omega
  rw[e]
  exact j,fun u _=>by omega⟩
 have:=F.min _ mf r (mem_range.mpr hr) fun q hq hl=>by
  have a:=ag q hl
  rw[zero_add]at a
  have b:=le q (mem_range.mp hq)
  show f q+G.n=h q
  omega
 have t:h r≤f r+G.n:=this
 omega
theorem Deepest.firstMp{adj:Nat→Nat→Bool}{c d:Nat→Int}{A B:List Nat}(D:Deepest adj c d A B){f:Nat→Nat}(F:dz adj d A B f):dz adj c A B f:=⟨D.back F.mp,fun g m=>F.min g (D.maps g m)⟩
theorem tP{G H:Graph}(fG:Fine G)(fH:Fine H){h:Nat→Nat}(F:dz (uadj G H) (fun _=>0) (List.range G.n) (img G H) h):mapOf G H=some ((List.range G.n).map fun u=>h u - G.n):=by
 rcases lY fG fH with⟨_,no⟩|⟨r,e,fr⟩
 ·exact absurd (mp_iso.mp F.mp).1 (no _)
 ·rw[e,fr.eq (vN F)]
theorem uq{G H:Graph}(fG:Fine G)(fH:Fine H)(no:¬∃ h,Mp (uadj G H) (fun _=>0) (List.range G.n) (img G H) h):mapOf G H=none:=by
 rcases lY fG fH with⟨e,_⟩|⟨r,e,fr⟩
 ·exact e
 ·obtain⟨f,j,_⟩:=fr.ex
  exact absurd ⟨fun u=>f u+G.n,mp_iso.mpr ⟨by
   have e:(fun u=>f u+G.n - G.n)=f:=funext fun u=>by omega
   rw[e]
   exact j,fun u _=>by omega⟩⟩ no
theorem pB{G H:Graph}(h:refinedOf G H=false):mapOf G H=none:=by
 unfold mapOf
 rw[if_pos h]
theorem rV(G:Graph):Twin (uadj G G) (fun _=>0) G.n (List.range G.n):=by
 refine⟨fun p hp q hq=>?_,fun _ _=>rfl⟩
 have h1:=mem_range.mp hp
 have h2:=mem_range.mp hq
 refine Bool.eq_iff_iff.mpr ?_
 rw[uadj_iff,uadj_iff,show p+G.n - G.n=p by omega,show q+G.n - G.n=q by omega]
 constructor
 ·rintro(z|z)
  ·omega
  ·exact .inl ⟨h1,h2,z.2.2.2⟩
 ·rintro(z|z)
  ·exact .inr ⟨by omega,by omega,h2,z.2.2⟩
  ·omega
theorem pT{G:Graph}{d:Nat→Int}(D:Deepest (uadj G G) (fun _=>0) d (List.range G.n) (img G G))(g:Nat→Nat):Aut (uadj G G) d (List.range G.n) g↔(∀ p,¬ p<G.n→g p=p)∧Iso G G g:=by
 have Td:=(rV G).deepest D
 unfold Aut
 have e1:(∀ p,p∉List.range G.n→g p=p)↔∀ p,¬ p<G.n→g p=p:=by simp only[mem_range]
 rw[e1]
 refine and_congr_right fun _=>?_
 rw[← Td.mp]
 have e2:Mp (uadj G G) d (List.range G.n) ((List.range G.n).map (· +G.n)) (fun p=>g p+G.n)↔Mp (uadj G G) (fun _=>0) (List.range G.n) (img G G) (fun p=>g p+G.n):=⟨D.back,D.maps _⟩
 rw[e2,mp_iso]
 have e:(fun u=>g u+G.n - G.n)=g:=funext fun u=>by omega
 rw[e]
 exact⟨fun h=>h.1,fun h=>⟨h,fun u _=>by omega⟩⟩
theorem lJ{G:Graph}(fG:Fine G){d:Nat→Int}(D:Deepest (uadj G G) (fun _=>0) d (List.range G.n) (img G G)){m:Nat}(h:Card (Aut (uadj G G) d (List.range G.n)) m):movingsOf G=m:=
 (w9 fG).eq (h.congr fun g=>(pT D g).symm)
theorem l9{G:Graph}(fG:Fine G){d:Nat→Int}(D:Deepest (uadj G G) (fun _=>0) d (List.range G.n) (img G G)){k:Int→Int→Bool}(hk:∀ x y,k x y=k y x){least:Nat→Nat}
  (h:∀ u,u<G.n→least u<G.n∧(∃ g,Mp (uadj G G) d (pc (lk (uadj G G) d k) (List.range G.n) u) (pc (lk (uadj G G) d k) (List.range G.n) (least u)) g∧g u=least u)∧∀ o,o<least u→¬∃ g,Mp (uadj G G) d (pc (lk (uadj G G) d k) (List.range G.n) u) (pc (lk (uadj G G) d k) (List.range G.n) o) g∧g u=o):
  orbitsOf G=(List.range G.n).map least:=by
 have nd:(List.range G.n).Nodup:=nodup_range
 have sm:=(eC fG fG).sym
 refine ext_getElem? fun u=>?_
 rw[List.getElem?_map]
 by_cases hu:u<G.n
 ·obtain⟨v,e,⟨g,ig,gv⟩,mn⟩:=ny fG hu
  obtain⟨h1,h2,h3⟩:=h u hu
  rw[e,List.getElem?_range hu]
  show some v=some (least u)
  congr 1
  have orb:=fun o=>vD (adj:=uadj G G) (c:=d) (k:=k) nd sm hk (mem_range.mpr hu) o
  have to:∀ o,(∃ g,Iso G G g∧g u=o)↔∃ g,Aut (uadj G G) d (List.range G.n) g∧g u=o:=fun o=>by
   constructor
   ·rintro⟨g,ig,e⟩
    refine⟨fun p=>if p<G.n then g p else p,(pT D _).mpr ⟨fun p hp=>if_neg hp,⟨rfl,fun u hu=>by rw[if_pos hu];exact ig.lt u hu,fun u v hu hv e=>ig.inj u v hu hv (by simpa [hu,hv]using e),fun u v hu hv=>by rw[if_pos hu,if_pos hv];exact ig.edge u v hu hv⟩⟩,?_⟩
    show(if _ then _ else _)=_
    rw[if_pos hu,e]
   ·rintro⟨g,ag,e⟩
    exact⟨g,((pT D g).mp ag).2,e⟩
  refine le_antisymm ?_ ?_
  ·obtain⟨g',ig',e'⟩:=(to _).mpr ((orb _).mpr ⟨mem_range.mpr h1,h2⟩)
   have:=mn g' ig'
   omega
  ·refine Classical.byContradiction fun z=>?_
   exact h3 v (by omega) ((orb v).mp ((to v).mp ⟨g,ig,gv⟩)).2
 ·rw[List.getElem?_eq_none (by rw[jW];omega),List.getElem?_eq_none (by rw[length_range];omega)]
  rfl
end GS
namespace L2
open PySem PySem.Spec PyProof.Rows
abbrev Key:=Sum Int Str
def jx:Key→Value→Bool
 | .inl k,v=>Value.isInt k v
 | .inr x,v=>Value.isStrOf x v
def keyH(w:World):Key→Int
 | .inl k=>hashInt k
 | .inr x=>hashStr w x
theorem br:∀{k:Key} {v:Value},jx k v=true→(∃ i t,k=Sum.inl i∧v=Value.int i t)∨(∃ x t,k=Sum.inr x∧v=Value.str x t)
 | .inl i,v,h=>by
  obtain⟨t,e⟩:=Value.isInt_shape (k:=i) (v:=v) h
  exact .inl ⟨i,t,rfl,e⟩
 | .inr x,v,h=>by
  obtain⟨t,e⟩:=Value.isStrOf_shape (x:=x) (v:=v) h
  exact .inr ⟨x,t,rfl,e⟩
theorem vM(i:Int)(t:Tok):jx (.inl i) (.int i t)=true:=by simp[jx,Value.isInt]
theorem wL(x:Str)(t:Tok):jx (.inr x) (.str x t)=true:=by simp[jx,Value.isStrOf]
theorem Ay(a b:Int):decide ((Sum.inl a:Key)=Sum.inl b)=(a==b):=by
 by_cases e:a=b
 ·subst e;simp
 ·have h:¬(Sum.inl a:Key)=Sum.inl b:=fun q=>e (Sum.inl.inj q)
  rw[decide_eq_false h]
  exact(beq_eq_false_iff_ne.mpr e).symm
theorem AJ(a b:Str):decide ((Sum.inr a:Key)=Sum.inr b)=decide (a=b):=by
 by_cases e:a=b
 ·subst e;simp
 ·have h:¬(Sum.inr a:Key)=Sum.inr b:=fun q=>e (Sum.inr.inj q)
  rw[decide_eq_false h,decide_eq_false e]
theorem AO(a:Int)(b:Str):decide ((Sum.inl a:Key)=Sum.inr b)=false:=decide_eq_false (fun q=>nomatch q)
theorem Ai(a:Str)(b:Int):decide ((Sum.inr a:Key)=Sum.inl b)=false:=decide_eq_false (fun q=>nomatch q)
def a7(prog:Program)(w:World):PySem.KeyKind prog w Key where
 is:=jx
 hash:=keyH w
 inj:=fun v a b ha hb=>by
  rcases br ha with⟨i,t,rfl,rfl⟩|⟨x,t,rfl,rfl⟩
  ·rcases br hb with⟨j,u,rfl,e⟩|⟨y,u,rfl,e⟩
   ·injection e with e1 _;rw[e1]
   ·exact nomatch e
  ·rcases br hb with⟨j,u,rfl,e⟩|⟨y,u,rfl,e⟩
   ·exact nomatch e
   ·injection e with e1 _;rw[e1]
 byValue:=fun k v h=>by
  rcases br h with⟨i,t,rfl,rfl⟩|⟨x,t,rfl,rfl⟩<;>rfl
 pyHash:=fun hv h=>by
  rcases br hv with⟨i,t,rfl,rfl⟩|⟨x,t,rfl,rfl⟩
  ·exact wpAny_pyHash_int h
  ·exact wpAny_pyHash_str h
 eqBool:=fun hu hv h=>by
  rcases br hu with⟨i,t,rfl,rfl⟩|⟨x,t,rfl,rfl⟩
  ·rcases br hv with⟨j,u,rfl,rfl⟩|⟨y,u,rfl,rfl⟩
   ·rw[Ay]at h;exact wpAny_eqBool_int h
   ·rw[AO]at h;exact SeqAt.EqAt.int_str i t y u _ _ _ _ h
  ·rcases br hv with⟨j,u,rfl,rfl⟩|⟨y,u,rfl,rfl⟩
   ·rw[Ai]at h;exact SeqAt.EqAt.str_int x t j u _ _ _ _ h
   ·rw[AJ]at h;exact wpAny_eqBool_str h
 «strs» :=fun k x t v h=>by
  rcases br h with⟨i,u,rfl,e⟩|⟨y,u,rfl,e⟩
  ·exact nomatch e
  ·injection e with e1 _
   subst e1
   cases v<;>rfl
theorem qj(prog:Program)(w:World)(i:Int)(t:Tok):(a7 prog w).is (.inl i) (.int i t)=true:=vM i t
theorem rJ(prog:Program)(w:World)(x:Str)(t:Tok):(a7 prog w).is (.inr x) (.str x t)=true:=wL x t
inductive V where
 |non|bl (b:Bool)|int (i:Int)|str (x:Str)|byt (b:Array UInt8)|flt (b:UInt64)|ref (a:Addr)|ty (n:String)
 deriving DecidableEq
def RelV:V→Value→Prop
 | .non,u=>u=Value.none
 | .bl b,u=>u=Value.bool b
 | .int i,u=>∃ t,u=Value.int i t
 | .str x,u=>∃ t,u=Value.str x t
 | .byt b,u=>∃ t,u=Value.bytes b t
 | .flt b,u=>∃ t,u=Value.float b t
 | .ref a,u=>u=Value.ref a
 | .ty n,u=>u=Value.type n
abbrev Vals:List V→List Value→Prop:=Paired RelV
theorem Vals.length{xs:List V}{us:List Value}(r:Vals xs us):xs.length=us.length:=Paired.length r
theorem Vals.get:∀{xs:List V} {us:List Value} {i:Nat} {x:V},Vals xs us→xs[i]?=some x→∃ u,us[i]?=some u∧RelV x u
 |_,_,_,_,.nil,e=>by simp at e
 |_,_,0,_,.cons r _,e=>by simp at e;subst e;exact⟨_,rfl,r⟩
 |_,_,i+1,x,.cons _ t,e=>by
  obtain⟨u,h1,h2⟩:=Vals.get (i:=i) (x:=x) t (by simpa using e)
  exact⟨u,by simpa using h1,h2⟩
theorem Vals.set{x:V}{u:Value}(r:RelV x u):∀{xs:List V} {us:List Value} (i:Nat),Vals xs us→Vals (xs.set i x) (us.set i u)
 |_,_,_,.nil=> .nil
 |_,_,0,.cons _ t=> .cons r t
 |_,_,i+1,.cons q t=> .cons q (Vals.set r i t)
theorem Vals.append:∀{xs ys:List V} {us ws:List Value},Vals xs us→Vals ys ws→Vals (xs++ys) (us++ws)
 |_,_,_,_,.nil,s=>s
 |_,_,_,_,.cons r t,s=> .cons r (Vals.append t s)
theorem Vals.take:∀{xs:List V} {us:List Value} (n:Nat),Vals xs us→Vals (xs.take n) (us.take n)
 |_,_,0,_=> .nil
 |_,_,_+1,.nil=> .nil
 |_,_,n+1,.cons r t=> .cons r (Vals.take n t)
theorem Vals.drop:∀{xs:List V} {us:List Value} (n:Nat),Vals xs us→Vals (xs.drop n) (us.drop n)
 |_,_,0,r=>r
 |_,_,_+1,.nil=> .nil
 |_,_,n+1,.cons _ t=>Vals.drop n t
def RelO:Option V→Option Value→Prop
 |some v,some u=>RelV v u
 |none,none=>True
 |_,_=>False
def KV{κ:Type}:List (κ×V)→List (κ×Value)→Prop:=Paired fun(p:κ×V) (q:κ×Value)=>p.1=q.1∧RelV p.2 q.2
def kV:Key→V
 | .inl i=> .int i
 | .inr x=> .str x
inductive HO where
 |lst (xs:List V)
 |tup (xs:List V)
 |dK (kvs:List (Key×V))|dT (kvs:List (List Key×V))
 |set (S:Int→Bool) (n:Nat)
 |ins (C dx:Addr) (fs:List (Str×V))
 |own (x:Addr)
 |xd (fs:List (Str×V))
 |met (f x:Addr)
 |rng (lo hi:Int)
 |frz (o:Obj) (u:HO)
 |tbl (ps:Array Value)
 |ext (φ:Heap→Prop)
abbrev Hp:=Addr→Option HO
def upd(H:Hp)(a:Addr)(o:HO):Hp:=fun b=>if b=a then some o else H b
theorem ah{H:Hp}{a:Addr}{o:HO}:upd H a o a=some o:=by unfold upd;rw[if_pos rfl]
theorem ao{H:Hp}{a b:Addr}{o:HO}(h:b≠a):upd H a o b=H b:=by unfold upd;rw[if_neg h]
theorem iD{H:Hp}{a:Addr}{o u:HO}:upd (upd H a o) a u=upd H a u:=by
 funext b;unfold upd;split<;>rfl
theorem dY{H:Hp}{a b:Addr}{o u:HO}(h:H a=some o)(h':H b=some u)(d:o≠u):a≠b:=by
 intro e;subst e;rw[h]at h';exact d (Option.some.inj h')
theorem aL{H:Hp}{a b:Addr}{o:HO}(h:H a=some o)(h':H b=none):a≠b:=by
 intro e;subst e;rw[h]at h';cases h'
section
variable(P:Program)(w:World)
def ObjOk(H:Hp)(h:Heap)(a:Addr):HO→Prop
 | .lst xs=>xs.length≤sizeLine∧∃(its:List Value) (n:Nat),Vals xs its∧h.get? a=some {cls:= .type "list",data:= .seq its.toArray n }
 | .tup xs=>xs.length≤sizeLine∧∃ its:List Value,Vals xs its∧IsTup h a its.toArray
 | .dK kvs=>kvs.length≤sizeLine∧(a==sysModules)=false∧∃ vs,KV kvs vs∧h.DictOf (a7 P w) a vs
 | .dT kvs=>kvs.length≤sizeLine∧(a==sysModules)=false∧∃ xs:List (List Key×Addr×Value),
   Paired (fun(p:List Key×V) (q:List Key×Addr×Value)=>p.1=q.1∧H q.2.1=some (.tup (p.1.map kV))∧RelV p.2 q.2.2) kvs xs∧
   ∃ o es ep,h.get? a=some o∧o.ExactDict∧o.data= .dict es ep∧es.toList=xs.map (entryOfKey (tupleKind (a7 P w)))∧(xs.map (·.1)).Nodup
 | .set S n=>h.SetOf (intKind P w) a S n
 | .ins C dx fs=>H dx=some (.own a)∧fs.length≤1000∧dx≠a∧h.get? a=some (PySem.W.instObj C dx)∧
   ∃ mA,h.Ns1 dx mA∧(∀ f,RelO (fs.lookup f) (mA f))∧PySem.Within mA (fs.map (·.1))
 | .own _=>∃ o,h.get? a=some o
 | .xd fs=>∃ mA,h.Ns1 a mA∧∀ f,RelO (fs.lookup f) (mA f)
 | .rng lo hi=>∃ t u v,h.get? a=some {cls:= .type "range",data:= .fields #[.int lo t,.int hi u,.int 1 v] }
 | .frz o u=>h.get? a=some o∧ObjOk H h a u
 | .tbl ps=>h.get? a=some {cls:= .none,data:= .fields ps }
 | .met f x=>h.get? a=some (PySem.W.methodObj (.ref f) (.ref x))
 | .ext φ=>φ h∧(∃ o,h.get? a=some o)∧∀ h1 h2:Heap,φ h1→(∀ o,h1.get? a=some o→h2.get? a=some o)→φ h2
def HOk(H:Hp)(h:Heap):Prop:=∀ a o,H a=some o→ObjOk P w H h a o
end
section
variable{P:Program}{w:World}{H H':Hp}{h h':Heap}{a:Addr}{o:HO}
theorem ObjOk.lt(x:ObjOk P w H h a o):a<h.objs.size:=by
 cases o with
 |lst xs=>obtain⟨_,_,_,_,e⟩:=x;exact Heap.lt_size e
 |tup xs=>obtain⟨_,_,_,p⟩:=x;exact p.lt
 |dK kvs=>obtain⟨_,_,_,_,o,_,_,e,_⟩:=x;exact Heap.lt_size e
 |dT kvs=>obtain⟨_,_,_,_,o,_,_,e,_⟩:=x;exact Heap.lt_size e
 |set S n=>obtain⟨o,_,_,_,e,_⟩:=x;exact Heap.lt_size e
 |ins C dx fs=>obtain⟨_,_,_,e,_⟩:=x;exact Heap.lt_size e
 |own y=>obtain⟨_,e⟩:=x;exact Heap.lt_size e
 |xd fs=>obtain⟨_,⟨_,_,_,e,_⟩,_⟩:=x;exact Heap.lt_size e
 |rng lo hi=>obtain⟨_,_,_,e⟩:=x;exact Heap.lt_size e
 |frz ob u=>obtain⟨e,_⟩:=x;exact Heap.lt_size e
 |tbl ps=>exact Heap.lt_size (show h.get? a=some _ from x)
 |met f y=>exact Heap.lt_size (show h.get? a=some _ from x)
 |ext φ=>obtain⟨_,⟨_,e⟩,_⟩:=x;exact Heap.lt_size e
theorem Paired.mapP{α β:Type}{F G:α→β→Prop}:∀{l₁:List α} {l₂:List β},Paired F l₁ l₂→(∀ a b,F a b→G a b)→Paired G l₁ l₂
 |_,_,.nil,_=> .nil
 |_,_,.cons r t,f=> .cons (f _ _ r) (Paired.mapP t f)
theorem ObjOk.stay(x:ObjOk P w H h a o)(k:∀ b u,(b=a∨H b=some (.own a))→h.get? b=some u→h'.get? b=some u)
  (ho:∀ b,H b=some (.own a)→H' b=some (.own a)) (ht:∀ b xs,H b=some (.tup xs)→H' b=some (.tup xs)):ObjOk P w H' h' a o:=by
 induction o with
 |lst xs=>obtain⟨z,its,n,r,e⟩:=x;exact⟨z,its,n,r,k _ _ (.inl rfl) e⟩
 |tup xs=>obtain⟨z,its,r,ob,e,c⟩:=x;exact⟨z,its,r,ob,k _ _ (.inl rfl) e,c⟩
 |dK kvs=>obtain⟨z,y,vs,r,ob,es,ep,e,c⟩:=x;exact⟨z,y,vs,r,ob,es,ep,k _ _ (.inl rfl) e,c⟩
 |dT kvs=>
  obtain⟨z,y,xs,r,ob,es,ep,e,c⟩:=x
  exact⟨z,y,xs,Paired.mapP r fun p q z=>⟨z.1,ht _ _ z.2.1,z.2.2⟩,ob,es,ep,k _ _ (.inl rfl) e,c⟩
 |set S n=>obtain⟨ob,es,ep,t,e,c⟩:=x;exact⟨ob,es,ep,t,k _ _ (.inl rfl) e,c⟩
 |ins C dx fs=>
  obtain⟨d,z,ne,e,mA,⟨od,es,ep,e2,c⟩,r⟩:=x
  exact⟨ho _ d,z,ne,k _ _ (.inl rfl) e,mA,⟨od,es,ep,k _ _ (.inr d) e2,c⟩,r⟩
 |own y=>obtain⟨ob,e⟩:=x;exact⟨ob,k _ _ (.inl rfl) e⟩
 |xd fs=>obtain⟨mA,⟨od,es,ep,e,c⟩,r⟩:=x;exact⟨mA,⟨od,es,ep,k _ _ (.inl rfl) e,c⟩,r⟩
 |rng lo hi=>obtain⟨t,u,v,e⟩:=x;exact⟨t,u,v,k _ _ (.inl rfl) e⟩
 |frz ob u ih=>obtain⟨e,q⟩:=x;exact⟨k _ _ (.inl rfl) e,ih q⟩
 |tbl ps=>
  have e:h.get? a=some {cls:= .none,data:= .fields ps }:=x
  show h'.get? a=some {cls:= .none,data:= .fields ps }
  exact k a _ (.inl rfl) e
 |met f y=>
  have e:h.get? a=some (PySem.W.methodObj (.ref f) (.ref y)):=x
  show h'.get? a=some (PySem.W.methodObj (.ref f) (.ref y))
  exact k a _ (.inl rfl) e
 |ext φ=>obtain⟨p,⟨o,e⟩,st⟩:=x;exact⟨st _ _ p fun o q=>k _ _ (.inl rfl) q,⟨o,k _ _ (.inl rfl) e⟩,st⟩
theorem HOk.lt(x:HOk P w H h)(e:H a=some o):a<h.objs.size:=(x a o e).lt
theorem HOk.fresh(x:HOk P w H h)(e:h.objs.size≤a):H a=none:=by
 cases q:H a with
 |none=>rfl
 |some u=>exact absurd (lt_of_lt_of_le (x.lt q) e) (lt_irrefl _)
theorem HOk.kept(x:HOk P w H h)(k:∀ b u,h.get? b=some u→h'.get? b=some u):HOk P w H h':=fun a o e=>
 (x a o e).stay (fun b u _ q=>k b u q) (fun _ q=>q) fun _ _ q=>q
theorem HOk.laid(x:HOk P w H h)(k:∀ b u,h.get? b=some u→h'.get? b=some u)(hp:h.objs.size≤a)(new:ObjOk P w (upd H a o) h' a o):HOk P w (upd H a o) h':=fun b u e=>by
 have hn:=x.fresh hp
 by_cases hb:b=a
 ·subst hb;rw[ah]at e;cases e;exact new
 ·rw[ao hb]at e
  exact(x b u e).stay (fun c v _ q=>k c v q) (fun c q=>by rw[ao (aL q hn)];exact q) fun c xs q=>by rw[ao (aL q hn)];exact q
end
def Rd(H:Hp)(a:Addr)(u:HO):Prop:=H a=some u∨∃ o,H a=some (.frz o u)
theorem Rd.ok{P:Program}{w:World}{H:Hp}{h:Heap}{a:Addr}{u:HO}(r:Rd H a u)(x:HOk P w H h):ObjOk P w H h a u:=by
 rcases r with r|⟨o,r⟩
 ·exact x a u r
 ·obtain⟨_,q⟩:=x a _ r
  exact q
def Mut:Option HO→Prop
 |some (.lst _)=>True
 |some (.dK _)=>True
 |some (.dT _)=>True
 |some (.set _ _)=>True
 |some (.ins _ _ _)=>True
 |some (.ext _)=>True
 |_=>False
section
variable{P:Program}{w:World}{H:Hp}{h h':Heap}{x e:Addr}{o':HO}
theorem HOk.write(ok:HOk P w H h)(mu:Mut (H x))(he:e=x∨H e=some (.own x))(k:∀ b u,b≠e→h.get? b=some u→h'.get? b=some u)(heo:∃ u,h'.get? e=some u)
  (new:ObjOk P w (upd H x o') h' x o'):HOk P w (upd H x o') h':=fun b u q=>by
 have nown:∀ c y,H c=some (.own y)→c≠x:=fun c y r z=>by subst z;rw[r]at mu;exact mu
 have ntup:∀ c xs,H c=some (.tup xs)→c≠x:=fun c xs r z=>by subst z;rw[r]at mu;exact mu
 by_cases hb:b=x
 ·subst hb;rw[ah]at q;cases q;exact new
 ·rw[ao hb]at q
  by_cases hbe:b=e
  ·have q':H b=some (.own x):=by
    rcases he with z|z
    ·exact absurd (hbe.trans z) hb
    ·rw[hbe];exact z
   rw[q]at q';cases q'
   obtain⟨v,hv⟩:=heo
   exact⟨v,by rw[hbe];exact hv⟩
  ·refine(ok b u q).stay (fun c v hc r=>k c v ?_ r) (fun c r=>by rw[ao (nown c b r)];exact r) fun c xs r=>by rw[ao (ntup c xs r)];exact r
   rcases hc with rfl|hc
   ·exact hbe
   ·rintro rfl
    rcases he with z|z
    ·exact nown c b hc z
    ·rw[hc]at z;cases z;exact hb rfl
end
structure Un(fs ex:List Addr)(H H':Hp)(h h':Heap):Prop where
 keep:∀ b o,h.get? b=some o→H b=none→b∉fs→b∉ex→h'.get? b=some o
 slot:∀ b o,h.get? b=some o→H b=none→b∈fs→b∉ex→∃ sl,h'.get? b=some {o with slots:=sl }
 free:∀ b o,h.get? b=some o→H b=none→b∉ex→H' b=none
 there:∀ b o,h.get? b=some o→b∉ex→∃ o',h'.get? b=some o'
 tups:∀ b xs,H b=some (.tup xs)→H' b=some (.tup xs)
 frzs:∀ b o u,H b=some (.frz o u)→H' b=some (.frz o u)
 tbls:∀ b ps,H b=some (.tbl ps)→∃ more,H' b=some (.tbl (ps++more))
section
variable{fs fs' ex ex':List Addr}{H H1 H2:Hp}{h h1 h2 h':Heap}{a x e:Addr}{o:HO}
theorem Un.any(u:Un fs ex H H1 h h1){b:Addr}{ob:Obj}(q:h.get? b=some ob)(n:H b=none)(hx:b∉ex):∃ sl,h1.get? b=some {ob with slots:=sl }:=by
 by_cases hb:b∈fs
 ·exact u.slot b ob q n hb hx
 ·exact⟨ob.slots,u.keep b ob q n hb hx⟩
theorem Un.kept(k:∀ b u,h.get? b=some u→h'.get? b=some u):Un fs ex H H h h':=
 ⟨fun b ob q _ _ _=>k b ob q,fun b ob q _ _ _=>⟨ob.slots,k b ob q⟩,fun _ _ _ n _=>n,fun b ob q _=>⟨ob,k b ob q⟩,fun _ _ q=>q,fun _ _ _ q=>q,fun _ ps q=>⟨#[],by rw[q];simp⟩⟩
theorem Un.refl:Un fs ex H H h h:=Un.kept fun _ _ q=>q
theorem Un.laid(k:∀ b u,h.get? b=some u→h'.get? b=some u)(hp:h.objs.size≤a)(hn:H a=none):Un fs ex H (upd H a o) h h' where
 keep:=fun b u q _ _ _=>k b u q
 slot:=fun b u q _ _ _=>⟨u.slots,k b u q⟩
 free:=fun b u q n _=>by rw[ao (ne_of_lt (lt_of_lt_of_le (Heap.lt_size q) hp))];exact n
 there:=fun b u q _=>⟨u,k b u q⟩
 tups:=fun b xs q=>by rw[ao (aL q hn)];exact q
 frzs:=fun b u xs q=>by rw[ao (aL q hn)];exact q
 tbls:=fun b ps q=>⟨#[],by rw[ao (aL q hn),q];simp⟩
theorem Un.write(mu:Mut (H x))(he:e=x∨H e=some (.own x))(k:∀ b u,b≠e→h.get? b=some u→h'.get? b=some u)(heo:∃ u,h'.get? e=some u):Un fs ex H (upd H x o) h h':=by
 have hx:∀ b,H b=none→b≠x:=fun b n z=>by subst z;rw[n]at mu;exact mu
 have hb:∀ b,H b=none→b≠e:=fun b n z=>by
  subst z
  rcases he with r|r
  ·exact hx b n r
  ·rw[n]at r;cases r
 have hm:∀ b u,H b=some u→¬ Mut (some u)→b≠x:=fun b u q nm z=>by subst z;rw[q]at mu;exact nm mu
 refine⟨fun b u q n _ _=>k b u (hb b n) q,fun b u q n _ _=>⟨u.slots,k b u (hb b n) q⟩,fun b u q n _=>by rw[ao (hx b n)];exact n,fun b u q _=>?_,
  fun b xs q=>by rw[ao (hm b _ q fun z=>z)];exact q,fun b u xs q=>by rw[ao (hm b _ q fun z=>z)];exact q,fun b ps q=>⟨#[],by rw[ao (hm b _ q fun z=>z),q];simp⟩⟩
 by_cases hbe:b=e
 ·subst hbe;exact heo
 ·exact⟨u,k b u hbe q⟩
end
def trk(h:Heap)(H:Hp):List Addr:=(List.range h.objs.size).filter fun a=>(H a).isSome
def pU(h:Heap)(H:Hp):Heap:=PySem.W.hideAll h (trk h H)
theorem wz(h:Heap)(H:Hp):(pU h H).objs.size=h.objs.size:=PySem.W.hideAll_size _ _
theorem xo{h:Heap}{H:Hp}{b:Addr}{o:Obj}(e:h.get? b=some o)(n:H b=none):(pU h H).get? b=some o:=
 PySem.W.hideAll_get _ e fun hm=>by
  have q:(H b).isSome=true:=(mem_filter.mp hm).2
  rw[n]at q;simp at q
theorem zj{h:Heap}{H:Hp}{b:Addr}{o:Obj}(e:(pU h H).get? b=some o):h.get? b=some o∧H b=none:=by
 have e':h.get? b=some o:=PySem.W.of_hideAll (trk h H) e
 refine⟨e',?_⟩
 cases q:H b with
 |none=>rfl
 |some x=>
  have hm:b∈trk h H:=mem_filter.mpr ⟨mem_range.mpr (Heap.lt_size e'),by simp[q]⟩
  have z:(pU h H).get? b=none:=PySem.W.hideAll_none (trk h H) hm
  rw[z]at e;cases e
structure Mod(K:Frag)(mg:Str→Option Value)(base:Heap):Prop where
 kin:K.In base
 glob:base.Ns mainGlobals mg
 blt:∃ mb,base.Ns builtinsNs mb∧∀ x:Str,x≠"__name__"→mb x=bootBuiltins x
 nolimit:base.NoLimit
structure Cx where
 prog:Program
 w:World
 K:Frag
 mg:Str→Option Value
 base:Heap
 A:Around
 N:List Str
 s_0:Shared
 H_0:Hp
 env:Env
 outer:List Env
 stack:List Env
 ex:List Addr
 fn:Str→Bool
 calm:Bool
 pn:List (Addr×Obj)
 xe:Value→Shared→Prop
def frs(l:List Env):List Addr:=l.filterMap (·.frame)
abbrev Cx.fs(X:Cx):List Addr:=frs X.outer
def Vis(sc:Scope)(x:Str):Prop:=sc.names.lookup x=some .local∨sc.names.lookup x=some .cell∨sc.names.lookup x=some .free
def Loc(sc:Scope)(x:Str):Prop:=sc.names.lookup x=some .local∨sc.names.lookup x=some .cell
def Look(env:Env)(h:Heap)(m:Str→Option Value)(x:Str)(u:Value):Prop:=
 (env.kindOf x=some .local∧m x=some u)∨((env.kindOf x=some .cell∨env.kindOf x=some .free)∧∃ c,env.cells.lookup x=some c∧h.IsCell c (some u))
structure Cx.Ok(X:Cx):Prop where
 mod:Mod X.K X.mg X.base
 kind:X.env.scope.kind= .function
 glob:X.env.globals=mainGlobals
 blt:X.env.builtins=builtinsNs
 above:X.s_0.heap.objs.size≤X.env.locals
 inj:∀ x y c,X.env.cells.lookup x=some c→X.env.cells.lookup y=some c→x=y
 has:∀ x,(X.env.kindOf x=some .cell∨X.env.kindOf x=some .free)→∃ c,X.env.cells.lookup x=some c
 cab:∀ x c,X.fn x=true→X.env.cells.lookup x=some c→X.s_0.heap.objs.size≤c
 hd:X.calm=true→X.A.handled=none
 frames:X.A.frames=some X.stack
 stk:X.stack=X.outer∨(X.stack=X.env::X.outer∧X.env.frame=some X.env.locals)
 exf:∀ b∈X.ex,b≠X.env.locals∧∀ x c,X.env.cells.lookup x=some c→c≠b
 bs:∀ b o,X.base.get? b=some o→X.s_0.heap.get? b=some o∧X.H_0 b=none
 bsz:X.base.objs.size≤X.s_0.heap.objs.size
 noex:∀ b o,X.base.get? b=some o→b∉X.ex
 exfs:∀ b∈X.ex,b∉X.fs
 funs:X.s_0.heap.FunFrames X.base X.outer
 frf:∀ b∈X.fs,X.H_0 b=none
structure Inv(X:Cx)(pins:List (Addr×Obj))(σ:List (Option V))(H:Hp)(s:Shared):Prop where
 ok:X.Ok
 os:s.os=X.s_0.os
 bare:AllBare s.gens
 base:Un X.fs X.ex X.H_0 H X.s_0.heap s.heap
 loc:∃ m,s.heap.Ns X.env.locals m∧∀(i:Nat) (x:Str) (v:V),X.N[i]?=some x→σ[i]?=some (some v)→Vis X.env.scope x→∃ u,RelV v u∧Look X.env s.heap m x u
 cell:∀ x c,X.env.cells.lookup x=some c→∃ v,s.heap.IsCell c v
 free:H X.env.locals=none
 freeC:∀ x c,X.env.cells.lookup x=some c→H c=none
 pin:∀ p∈X.pn++pins,s.heap.get? p.1=some p.2∧H p.1=none∧p.1≠X.env.locals∧p.1∉X.fs∧∀ v,p.2.data≠ .cell v
 hok:HOk X.prog X.w H s.heap
 len:σ.length=X.N.length
section
variable{X:Cx}{pins:List (Addr×Obj)}{σ:List (Option V)}{H H':Hp}{s:Shared}{h':Heap}
theorem Cx.Ok.nofr(ok:X.Ok){b:Addr}{o:Obj}(e:X.base.get? b=some o):b∉X.fs:=fun hb=>by
 have:=(ok.funs.mem hb).1
 rw[e]at this;cases this
theorem Inv.bs(I:Inv X pins σ H s):∀ b o,X.base.get? b=some o→s.heap.get? b=some o∧H b=none:=fun b o e=>
 ⟨I.base.keep b o (I.ok.bs b o e).1 (I.ok.bs b o e).2 (I.ok.nofr e) (I.ok.noex b o e),I.base.free b o (I.ok.bs b o e).1 (I.ok.bs b o e).2 (I.ok.noex b o e)⟩
theorem Inv.bk(I:Inv X pins σ H s):∀ b o,X.base.get? b=some o→s.heap.get? b=some o:=fun b o e=>(I.bs b o e).1
theorem Inv.mod(I:Inv X pins σ H s):Mod X.K X.mg X.base:=I.ok.mod
theorem Inv.kIn(I:Inv X pins σ H s):X.K.In s.heap:=I.ok.mod.kin.keeps I.bk
theorem Inv.fr(I:Inv X pins σ H s):∃ m,Fr X.base X.env.locals s.heap m:=
 let⟨m,hn,_⟩:=I.loc
 ⟨m,hn,I.bk,le_trans I.ok.bsz I.ok.above⟩
theorem Inv.lt(I:Inv X pins σ H s):X.env.locals<s.heap.objs.size:=let⟨_,hn,_⟩:=I.loc;hn.lt
theorem Inv.sz(I:Inv X pins σ H s):X.s_0.heap.objs.size≤s.heap.objs.size:=le_trans I.ok.above (le_of_lt I.lt)
theorem Inv.nofs(I:Inv X pins σ H s){a:Addr}(h:s.heap.objs.size≤a):a∉X.fs:=fun hb=>by
 obtain⟨_,o,ho,_⟩:=I.ok.funs.mem hb
 exact absurd (lt_of_lt_of_le (Heap.lt_size ho) (le_trans I.sz h)) (lt_irrefl _)
theorem Inv.cne(I:Inv X pins σ H s):∀ x c,X.env.cells.lookup x=some c→c≠X.env.locals:=fun x c e z=>by
 obtain⟨v,o,ho,hd⟩:=I.cell x c e
 obtain⟨m,⟨o',es,ep,ho',hd',_⟩,_⟩:=I.loc
 rw[z,ho']at ho;cases ho;rw[hd']at hd;cases hd
theorem Inv.funs(I:Inv X pins σ H s):s.heap.FunFrames X.base X.outer:=by
 have all:∀(l:List Env),(∀ b∈frs l,b∈X.fs)→X.s_0.heap.FunFrames X.base l→s.heap.FunFrames X.base l:=by
  intro l
  induction l with
  |nil=>intro _ _;trivial
  |cons env r ih=>
   intro hs hl
   obtain⟨hk,⟨L,o,hf,hn,ho,hd⟩,hr⟩:=hl
   have hL:L∈X.fs:=hs L (by unfold frs;rw[List.filterMap_cons,hf];exact mem_cons_self)
   obtain⟨sl,e⟩:=I.base.slot L o ho (I.ok.frf L hL) hL fun z=>I.ok.exfs L z hL
   exact⟨hk,⟨L,_,hf,hn,e,hd⟩,ih (fun b hb=>hs b (by unfold frs;rw[List.filterMap_cons,hf];exact mem_cons_of_mem _ hb)) hr⟩
 exact all X.outer (fun _ hb=>hb) I.ok.funs
theorem Inv.stack(I:Inv X pins σ H s):s.heap.FunFrames X.base X.stack:=by
 rcases I.ok.stk with e|⟨e,hf⟩
 ·rw[e];exact I.funs
 ·rw[e]
  obtain⟨m,hn,_⟩:=I.loc
  refine .cons (by rw[I.ok.kind];decide) hf hn ?_ I.funs
  exact Heap.get?_none_of_le (le_trans I.ok.bsz I.ok.above)
theorem Inv.stkSub(I:Inv X pins σ H s):∀ b∈frs X.stack,b∈X.env.locals::X.fs:=fun b hb=>by
 rcases I.ok.stk with e|⟨e,hf⟩
 ·rw[e]at hb;exact mem_cons_of_mem _ hb
 ·rw[e]at hb
  unfold frs at hb
  rw[List.filterMap_cons,hf]at hb
  exact hb
theorem Inv.stkFree(I:Inv X pins σ H s):∀ b∈frs X.stack,H b=none:=fun b hb=>by
 rcases mem_cons.mp (I.stkSub b hb)with e|hb
 ·rw[e];exact I.free
 ·obtain⟨_,o,ho,_⟩:=I.ok.funs.mem hb
  exact I.base.free b o ho (I.ok.frf b hb) fun z=>I.ok.exfs b z hb
theorem Inv.step{g':Array GenState}{t':Nat}{d':Drawn}{ch:List Addr}(I:Inv X pins σ H s)
  (hch:∀ b∈ch,(b∈X.ex∨X.s_0.heap.objs.size≤b)∧b≠X.env.locals∧(∀ x c,X.env.cells.lookup x=some c→c≠b)∧∀ p∈X.pn++pins,p.1≠b)
  (keep:∀ b o,b≠X.env.locals→b∉X.fs→b∉ch→s.heap.get? b=some o→H b=none→h'.get? b=some o)
  (slot:∀ b o,b≠X.env.locals→b∈X.fs→b∉ch→s.heap.get? b=some o→H b=none→∃ sl,h'.get? b=some {o with slots:=sl }) (free:∀ b o,b∉ch→s.heap.get? b=some o→H b=none→H' b=none)
  (there:∀ b o,b∉ch→s.heap.get? b=some o→∃ o',h'.get? b=some o')
  (tups:∀ b xs,H b=some (.tup xs)→H' b=some (.tup xs)) (frzs:∀ b o u,H b=some (.frz o u)→H' b=some (.frz o u)) (tbls:∀ b ps,H b=some (.tbl ps)→∃ more,H' b=some (.tbl (ps++more)))
  (ns:∀ m,s.heap.Ns X.env.locals m→h'.Ns X.env.locals m) (hok:HOk X.prog X.w H' h') (hg:AllBare g'):
  Inv X pins σ H' {s with heap:=h',gens:=g',drawn:=d',toks:=t' }:=by
 have neL:∀ b o,X.s_0.heap.get? b=some o→b≠X.env.locals:=fun b o e=>ne_of_lt (lt_of_lt_of_le (Heap.lt_size e) I.ok.above)
 have neC:∀ b o,X.s_0.heap.get? b=some o→b∉X.ex→b∉ch:=fun b o e hx hb=>by
  rcases(hch b hb).1 with z|z
  ·exact hx z
  ·exact absurd (lt_of_lt_of_le (Heap.lt_size e) z) (lt_irrefl _)
 have cellK:∀ x c,X.env.cells.lookup x=some c→∀ v,s.heap.IsCell c v→h'.IsCell c v:=fun x c e v ⟨o,ho,hd⟩=>by
  have nch:c∉ch:=fun z=>(hch c z).2.2.1 x c e rfl
  by_cases hc:c∈X.fs
  ·obtain⟨sl,q⟩:=slot c o (I.cne x c e) hc nch ho (I.freeC x c e)
   exact⟨_,q,hd⟩
  ·exact⟨o,keep c o (I.cne x c e) hc nch ho (I.freeC x c e),hd⟩
 refine⟨I.ok,I.os,hg,⟨fun b o e n hb hx=>?_,fun b o e n hb hx=>?_,fun b o e n hx=>?_,fun b o e hx=>?_,fun b xs e=>tups b xs (I.base.tups b xs e),fun b o xs e=>frzs b o xs (I.base.frzs b o xs e),fun b ps e=>?_⟩,?_,fun x c e=>?_,?_,fun x c e=>?_,fun p hp=>?_,hok,I.len⟩
 ·exact keep b o (neL b o e) hb (neC b o e hx) (I.base.keep b o e n hb hx) (I.base.free b o e n hx)
 ·obtain⟨sl,e1⟩:=I.base.slot b o e n hb hx
  obtain⟨sl',e2⟩:=slot b _ (neL b o e) hb (neC b o e hx) e1 (I.base.free b o e n hx)
  exact⟨sl',e2⟩
 ·obtain⟨o',e1⟩:=I.base.there b o e hx
  exact free b o' (neC b o e hx) e1 (I.base.free b o e n hx)
 ·obtain⟨o',e1⟩:=I.base.there b o e hx
  exact there b o' (neC b o e hx) e1
 ·obtain⟨m1,e1⟩:=I.base.tbls b ps e
  obtain⟨m2,e2⟩:=tbls b _ e1
  exact⟨m1++m2,by rw[e2,Array.append_assoc]⟩
 ·obtain⟨m,hn,hl⟩:=I.loc
  refine⟨m,ns m hn,fun i x v e1 e2 e3=>?_⟩
  obtain⟨u,r,l⟩:=hl i x v e1 e2 e3
  refine⟨u,r,?_⟩
  rcases l with l|⟨k,c,e,z⟩
  ·exact .inl l
  ·exact .inr ⟨k,c,e,cellK x c e _ z⟩
 ·obtain⟨v,z⟩:=I.cell x c e
  exact⟨v,cellK x c e v z⟩
 ·obtain⟨m,⟨o,_,_,ho,_⟩,_⟩:=I.loc
  exact free _ o (fun z=>(hch _ z).2.1 rfl) ho I.free
 ·obtain⟨v,o,ho,hd⟩:=I.cell x c e
  exact free c o (fun z=>(hch c z).2.2.1 x c e rfl) ho (I.freeC x c e)
 ·obtain⟨e,n,ne,nf,d⟩:=I.pin p hp
  have nch:p.1∉ch:=fun z=>(hch p.1 z).2.2.2 p hp rfl
  exact⟨keep p.1 p.2 ne nf nch e n,free p.1 p.2 nch e n,ne,nf,d⟩
theorem Inv.un{t':Nat}(I:Inv X pins σ H s)(u:Un X.fs [] H H' s.heap h')(hok:HOk X.prog X.w H' h'):Inv X pins σ H' {s with heap:=h',toks:=t' }:=by
 obtain⟨m,⟨o,es,ep,ho,r⟩,_⟩:=id I.loc
 obtain⟨sl,hL⟩:=u.any ho I.free (by simp)
 exact I.step (g':=s.gens) (d':=s.drawn) (ch:=[]) (fun _ z=>nomatch z) (fun b o _ hb _ e n=>u.keep b o e n hb (by simp)) (fun b o _ hb _ e n=>u.slot b o e n hb (by simp)) (fun b o _ e n=>u.free b o e n (by simp)) (fun b o _ e=>u.there b o e (by simp)) u.tups u.frzs u.tbls (fun m' hm=>by
  obtain⟨o',es',ep',ho',r'⟩:=hm
  rw[ho]at ho';cases ho'
  exact⟨_,es',ep',hL,r'⟩) hok I.bare
theorem Inv.call{g':Array GenState}{t':Nat}{d':Drawn}{ch:List Addr}(I:Inv X pins σ H s)(u:Un (frs X.stack) ch H H' s.heap h')(hok:HOk X.prog X.w H' h')(hg:AllBare g')
  (hch:∀ b∈ch,(b∈X.ex∨X.s_0.heap.objs.size≤b)∧b≠X.env.locals∧(∀ x c,X.env.cells.lookup x=some c→c≠b)∧∀ p∈X.pn++pins,p.1≠b):
  Inv X pins σ H' {s with heap:=h',gens:=g',drawn:=d',toks:=t' }:=by
 obtain⟨m,⟨o,es,ep,ho,r⟩,_⟩:=id I.loc
 obtain⟨sl,hL⟩:=u.any ho I.free fun z=>(hch _ z).2.1 rfl
 exact I.step (ch:=ch) hch (fun b o hL hb hc e n=>u.keep b o e n (fun z=>(mem_cons.mp (I.stkSub b z)).elim hL hb) hc) (fun b o _ _ hc e n=>u.any e n hc) (fun b o hc e n=>u.free b o e n hc) (fun b o hc e=>u.there b o e hc) u.tups u.frzs u.tbls (fun m' hm=>by
  obtain⟨o',es',ep',ho',r'⟩:=hm
  rw[ho]at ho';cases ho'
  exact⟨_,es',ep',hL,r'⟩) hok hg
theorem Inv.turned{t':Nat}{it:Addr}(I:Inv X pins σ H s)(k:∀ b o,b≠it→s.heap.get? b=some o→h'.get? b=some o)(hn:H it=none)(hL:it≠X.env.locals)
  (h1:it∈X.ex∨X.s_0.heap.objs.size≤it) (h2:∀ x c,X.env.cells.lookup x=some c→c≠it) (h3:∀ p∈X.pn++pins,p.1≠it):Inv X pins σ H {s with heap:=h',toks:=t' }:=by
 have nit:∀ b u,H b=some u→b≠it:=fun b u e z=>by rw[z,hn]at e;cases e
 refine I.step (g':=s.gens) (d':=s.drawn) (ch:=[it]) (fun b hb=>?_) (fun b o _ _ hc e _=>k b o (fun z=>hc (by simp[z])) e) (fun b o _ _ hc e _=>⟨o.slots,k b o (fun z=>hc (by simp[z])) e⟩) (fun _ _ _ _ n=>n)
  (fun b o hc e=>⟨o,k b o (fun z=>hc (by simp[z])) e⟩) (fun _ _ e=>e) (fun _ _ _ e=>e) (fun b ps e=>⟨#[],by rw[e];simp⟩) (fun m hm=>?_) (fun b u e=>?_) I.bare
 ·have e:b=it:=by simpa using hb
  subst e
  exact⟨h1,hL,h2,h3⟩
 ·obtain⟨o,es,ep,ho,r⟩:=hm
  exact⟨o,es,ep,k _ o (Ne.symm hL) ho,r⟩
 ·refine(I.hok b u e).stay (fun c v hc q=>k c v ?_ q) (fun _ q=>q) fun _ _ q=>q
  rcases hc with z|z
  ·rw[z];exact nit b u e
  ·exact nit c _ z
theorem Inv.tok(I:Inv X pins σ H s)(t:Nat):Inv X pins σ H {s with toks:=t }:=I.un (h':=s.heap) (t':=t) Un.refl I.hok
theorem Inv.kept{t':Nat}(I:Inv X pins σ H s)(k:∀ b u,s.heap.get? b=some u→h'.get? b=some u):Inv X pins σ H {s with heap:=h',toks:=t' }:=I.un (Un.kept k) (I.hok.kept k)
theorem Inv.laid{a:Addr}{o:HO}{t':Nat}(I:Inv X pins σ H s)(k:∀ b u,s.heap.get? b=some u→h'.get? b=some u)(hp:s.heap.objs.size≤a)(new:ObjOk X.prog X.w (upd H a o) h' a o):
  Inv X pins σ (upd H a o) {s with heap:=h',toks:=t' }:=I.un (Un.laid k hp (I.hok.fresh hp)) (I.hok.laid k hp new)
theorem Inv.write{x e:Addr}{o:HO}{t':Nat}(I:Inv X pins σ H s)(mu:Mut (H x))(he:e=x∨H e=some (.own x))(k:∀ b u,b≠e→s.heap.get? b=some u→h'.get? b=some u)(heo:∃ u,h'.get? e=some u)
  (new:ObjOk X.prog X.w (upd H x o) h' x o):Inv X pins σ (upd H x o) {s with heap:=h',toks:=t' }:=I.un (Un.write mu he k heo) (I.hok.write mu he k heo new)
theorem Inv.weak{σ':List (Option V)}(I:Inv X pins σ H s)(hl:σ'.length=σ.length)(w:∀(i:Nat) v,σ'[i]?=some (some v)→σ[i]?=some (some v)):Inv X pins σ' H s:=
 ⟨I.ok,I.os,I.bare,I.base,let⟨m,hn,hl'⟩:=I.loc;⟨m,hn,fun i x v e1 e2 e3=>hl' i x v e1 (w i v e2) e3⟩,I.cell,I.free,I.freeC,I.pin,I.hok,hl.trans I.len⟩
theorem Inv.pins_of{pins':List (Addr×Obj)}(I:Inv X pins σ H s)(h:∀ p∈pins',s.heap.get? p.1=some p.2∧H p.1=none∧p.1≠X.env.locals∧p.1∉X.fs∧∀ v,p.2.data≠ .cell v):Inv X pins' σ H s:=
 ⟨I.ok,I.os,I.bare,I.base,I.loc,I.cell,I.free,I.freeC,fun p hp=>(mem_append.mp hp).elim (fun z=>I.pin p (mem_append_left _ z)) (h p),I.hok,I.len⟩
theorem mv{N:List Str}(hN:N.Nodup){i j:Nat}{x:Str}(a:N[i]?=some x)(b:N[j]?=some x):i=j:=by
 obtain⟨h1,e1⟩:=List.getElem?_eq_some_iff.mp a
 obtain⟨h2,e2⟩:=List.getElem?_eq_some_iff.mp b
 exact(List.getElem_inj hN).mp (e1.trans e2.symm)
theorem nY{M:Model}{A:Around}{E:Value→Shared→Prop}{i:Nat}{x:Str}{v:V}{u:Value}{Q:Unit→Shared→Prop}(I:Inv X pins σ H s)(hN:X.N.Nodup)(hi:X.N[i]?=some x)(hx:Loc X.env.scope x)(r:RelV v u)
  (h:∀ s',Inv X pins (σ.set i (some v)) H s'→(∃ a,Heap.SameBut a s.heap s'.heap∧(a=X.env.locals∨X.env.cells.lookup x=some a))→Q () s') (hf:X.fn x=true∨X.env.scope.names.lookup x=some .local:=by first|exact .inl rfl|exact .inr rfl|assumption):wpAny M A (storeName X.env x u) Q E s:=by
 obtain⟨m,hn,hl⟩:=id I.loc
 have hcls:(X.env.scope.kind== .class||(X.env.scope.kind== .module&&X.env.locals != X.env.globals))=false:=by rw[I.ok.kind];rfl
 have hiσ:i<σ.length:=by rw[I.len];exact(List.getElem?_eq_some_iff.mp hi).1
 have cne:=I.cne
 have tracked:∀{a:Addr} {h':Heap},(∃ o,s.heap.get? a=some o∧H a=none)→Heap.SameBut a s.heap h'→HOk X.prog X.w H h':=fun {a h'} ha hs b ob e=>by
  obtain⟨_,_,hfree⟩:=ha
  refine(I.hok b ob e).stay (fun c w' hc q=>(hs.2 c ?_).trans q) (fun _ q=>q) fun _ _ q=>q
  rintro rfl
  rcases hc with rfl|hc
  ·rw[hfree]at e;cases e
  ·rw[hfree]at hc;cases hc
 rcases hx with hk|hk
 ·refine wpAny_storeName_local hk hn (fun h' hn' hs=>?_) hcls
  obtain⟨oL,_,_,hoL,_⟩:=id hn
  refine h _ ⟨I.ok,I.os,I.bare,⟨fun b o e n hb hx=>?_,fun b o e n hb hx=>?_,I.base.free,fun b o e hx=>?_,I.base.tups,I.base.frzs,I.base.tbls⟩,⟨_,hn',fun j y v' e1 e2 e3=>?_⟩,fun y c e=>?_,I.free,I.freeC,fun p hp=>?_,tracked ⟨oL,hoL,I.free⟩ hs,by simpa using I.len⟩ ⟨_,hs,.inl rfl⟩
  ·exact(hs.2 b (ne_of_lt (lt_of_lt_of_le (Heap.lt_size e) I.ok.above))).trans (I.base.keep b o e n hb hx)
  ·obtain⟨sl,e1⟩:=I.base.slot b o e n hb hx
   exact⟨sl,(hs.2 b (ne_of_lt (lt_of_lt_of_le (Heap.lt_size e) I.ok.above))).trans e1⟩
  ·obtain⟨o',e1⟩:=I.base.there b o e hx
   exact⟨o',(hs.2 b (ne_of_lt (lt_of_lt_of_le (Heap.lt_size e) I.ok.above))).trans e1⟩
  ·by_cases hj:j=i
   ·subst hj
    rw[hi]at e1;cases e1
    rw[List.getElem?_set_self hiσ]at e2
    cases e2
    exact⟨u,r,.inl ⟨hk,by simp⟩⟩
   ·rw[List.getElem?_set_ne (Ne.symm hj)]at e2
    obtain⟨u',r',q⟩:=hl j y v' e1 e2 e3
    refine⟨u',r',?_⟩
    rcases q with⟨k,e⟩|⟨k,c,e,z⟩
    ·refine .inl ⟨k,?_⟩
     have:y≠x:=fun e=>hj (mv hN e1 (e▸hi))
     simp[this,e]
    ·exact .inr ⟨k,c,e,z.sameBut hs (cne y c e)⟩
  ·obtain⟨w',z⟩:=I.cell y c e
   exact⟨w',z.sameBut hs (cne y c e)⟩
  ·obtain⟨e,n,ne,nf,d⟩:=I.pin p hp
   exact⟨(hs.2 p.1 ne).trans e,n,ne,nf,d⟩
 ·have hfn:X.fn x=true:=by
   rcases hf with z|z
   ·exact z
   ·rw[z]at hk;cases hk
  obtain⟨c,hc⟩:=I.ok.has x (.inl hk)
  obtain⟨w',z⟩:=I.cell x c hc
  refine wpAny_storeName_cell I.ok.kind hk hc z (fun h' hc' hs=>?_)
  obtain⟨oc,hoc,hocd⟩:=id z
  refine h {s with heap:=h' } ⟨I.ok,I.os,I.bare,⟨fun b o e n hb hx=>?_,fun b o e n hb hx=>?_,I.base.free,fun b o e hx=>?_,I.base.tups,I.base.frzs,I.base.tbls⟩,⟨m,hn.sameBut hs (Ne.symm (cne x c hc)),fun j y v' e1 e2 e3=>?_⟩,fun y c' e=>?_,I.free,I.freeC,fun p hp=>?_,tracked ⟨oc,hoc,I.freeC x c hc⟩ hs,by simpa using I.len⟩ ⟨c,hs,.inr hc⟩
  ·exact(hs.2 b (ne_of_lt (lt_of_lt_of_le (Heap.lt_size e) (I.ok.cab x c hfn hc)))).trans (I.base.keep b o e n hb hx)
  ·obtain⟨sl,e1⟩:=I.base.slot b o e n hb hx
   exact⟨sl,(hs.2 b (ne_of_lt (lt_of_lt_of_le (Heap.lt_size e) (I.ok.cab x c hfn hc)))).trans e1⟩
  ·obtain⟨o',e1⟩:=I.base.there b o e hx
   exact⟨o',(hs.2 b (ne_of_lt (lt_of_lt_of_le (Heap.lt_size e) (I.ok.cab x c hfn hc)))).trans e1⟩
  ·by_cases hj:j=i
   ·subst hj
    rw[hi]at e1;cases e1
    rw[List.getElem?_set_self hiσ]at e2
    cases e2
    exact⟨u,r,.inr ⟨.inl hk,c,hc,hc'⟩⟩
   ·rw[List.getElem?_set_ne (Ne.symm hj)]at e2
    obtain⟨u',r',q⟩:=hl j y v' e1 e2 e3
    refine⟨u',r',?_⟩
    rcases q with q|⟨k,c',e,z'⟩
    ·exact .inl q
    ·refine .inr ⟨k,c',e,z'.sameBut hs ?_⟩
     rintro rfl
     exact hj (mv hN e1 (I.ok.inj _ _ _ e hc▸hi))
  ·by_cases hcc:c'=c
   ·subst hcc;exact⟨_,hc'⟩
   ·obtain⟨w2,z2⟩:=I.cell y c' e
    exact⟨w2,z2.sameBut hs hcc⟩
  ·obtain⟨e,n,ne,nf,d⟩:=I.pin p hp
   refine⟨(hs.2 p.1 ?_).trans e,n,ne,nf,d⟩
   intro q
   rw[q,hoc]at e
   have q':oc=p.2:=Option.some.inj e
   exact d w' (by rw[← q'];exact hocd)
theorem qz{M:Model}{A:Around}{E:Value→Shared→Prop}{i:Nat}{x:Str}{v:V}{u:Value}{Q:Unit→Shared→Prop}(I:Inv X pins σ H s)(hN:X.N.Nodup)(hi:X.N[i]?=some x)(hx:Loc X.env.scope x)(r:RelV v u)
  (h:∀ s',Inv X pins (σ.set i (some v)) H s'→Q () s') (hf:X.fn x=true∨X.env.scope.names.lookup x=some .local:=by first|exact .inl rfl|exact .inr rfl|assumption):wpAny M A (storeName X.env x u) Q E s:=
 nY I hN hi hx r (fun s' I' _=>h s' I') hf
theorem Inv.call'{s':Shared}{ch:List Addr}(I:Inv X pins σ H s)(ho:s'.os=s.os)(u:Un (frs X.stack) ch H H' s.heap s'.heap)(hok:HOk X.prog X.w H' s'.heap)(hg:AllBare s'.gens)
  (hch:∀ b∈ch,(b∈X.ex∨X.s_0.heap.objs.size≤b)∧b≠X.env.locals∧(∀ x c,X.env.cells.lookup x=some c→c≠b)∧∀ p∈X.pn++pins,p.1≠b):Inv X pins σ H' s':=by
 obtain⟨h',g',d',t',o'⟩:=s'
 have e:o'=s.os:=ho
 subst e
 exact I.call (g':=g') (t':=t') (d':=d') u hok hg hch
end
abbrev XK:=Value→Option Addr→Hp→Prop
abbrev St:=List (Option V)
abbrev VK:=V→Hp→Prop
abbrev TE:=St→Hp→VK→Prop
abbrev TT:=St→Hp→(Bool→Hp→Prop)→Prop
abbrev TA:=St→Hp→(List V→Hp→Prop)→Prop
structure rG where
 nx:St→Hp→Prop
 rt:VK
 bk:St→Hp→Prop:=fun _ _=>False
 ct:St→Hp→Prop:=fun _ _=>False
abbrev TS:=rG→St→Hp→Prop
def EP(X:Cx)(pins:List (Addr×Obj))(σ:St)(Q:VK)(u:Value)(s':Shared):Prop:=∃ v H',Inv X pins σ H' s'∧RelV v u∧Q v H'
def TP(X:Cx)(pins:List (Addr×Obj))(σ:St)(Q:Bool→Hp→Prop)(b:Bool)(s':Shared):Prop:=∃ H',Inv X pins σ H' s'∧Q b H'
def AP(X:Cx)(pins:List (Addr×Obj))(σ:St)(Q:List V→Hp→Prop)(us:List Value)(s':Shared):Prop:=∃ vs H',Inv X pins σ H' s'∧Vals vs us∧Q vs H'
def SP(X:Cx)(pins:List (Addr×Obj))(D:rG)(f:Flow)(s':Shared):Prop:=
 match f with
 | .next=>∃ σ' H',Inv X pins σ' H' s'∧D.nx σ' H'
 | .brk=>∃ σ' H',Inv X pins σ' H' s'∧D.bk σ' H'
 | .cont=>∃ σ' H',Inv X pins σ' H' s'∧D.ct σ' H'
 | .ret u=>∃ v σ' H',Inv X pins σ' H' s'∧RelV v u∧D.rt v H'
def PE(X:Cx)(e:Expr)(t:TE):Prop:=
 ∀(pins:List (Addr×Obj)) (s:Shared) (σ:St) (H:Hp) (Q:VK),Inv X pins σ H s→t σ H Q→wpAny (model X.prog X.w) X.A (eval e X.env) (EP X pins σ Q) X.xe s
def PT(X:Cx)(e:Expr)(t:TT):Prop:=
 ∀(pins:List (Addr×Obj)) (s:Shared) (σ:St) (H:Hp) (Q:Bool→Hp→Prop),Inv X pins σ H s→t σ H Q→wpAny (model X.prog X.w) X.A (isTrue e X.env (eval e X.env)) (TP X pins σ Q) X.xe s
def PW(X:Cx)(e:Expr)(t:TT):Prop:=
 ∀(whole:Sem Value) (pins:List (Addr×Obj)) (s:Shared) (σ:St) (H:Hp) (Q:Bool→Hp→Prop),Inv X pins σ H s→t σ H Q→wpAny (model X.prog X.w) X.A (isTrue e X.env whole) (TP X pins σ Q) X.xe s
theorem PW.pt{X:Cx}{e:Expr}{t:TT}(h:PW X e t):PT X e t:=h _
def PA(X:Cx)(es:List Expr)(t:TA):Prop:=
 ∀(pos:Pos) (pins:List (Addr×Obj)) (s:Shared) (σ:St) (H:Hp) (Q:List V→Hp→Prop),Inv X pins σ H s→t σ H Q→wpAny (model X.prog X.w) X.A (spliced (backTo pos (starEach es X.env))) (AP X pins σ Q) X.xe s
def PS(X:Cx)(st:Stmt)(t:TS):Prop:=
 ∀(pins:List (Addr×Obj)) (s:Shared) (σ:St) (H:Hp) (D:rG),Inv X pins σ H s→t D σ H→wpAny (model X.prog X.w) X.A (exec st X.env) (SP X pins D) X.xe s
def PSs(X:Cx)(st:List Stmt)(t:TS):Prop:=
 ∀(pins:List (Addr×Obj)) (s:Shared) (σ:St) (H:Hp) (D:rG),Inv X pins σ H s→t D σ H→wpAny (model X.prog X.w) X.A (execs st X.env) (SP X pins D) X.xe s
theorem thn{α:Type}{t:Sem α}{Q Q':α→Shared→Prop}{M:Model}{A:Around}{E:Value→Shared→Prop}{s:Shared}(h:wpAny M A t Q E s)(hQ:∀ a s,Q a s→Q' a s):wpAny M A t Q' E s:=wpAny_mono h hQ fun _ _ x=>x
section
variable{X:Cx}
theorem bin{a b:Expr}{ta tb:TE}(ha:PE X a ta)(hb:PE X b tb){pins:List (Addr×Obj)}{s:Shared}{σ:St}{H:Hp}{R:V→V→Hp→Prop}(I:Inv X pins σ H s)(h:ta σ H fun x H1=>tb σ H1 fun y H2=>R x y H2)
  {α:Type} {Q:α→Shared→Prop} {f:Value→Value→Sem α}
  (hf:∀ v u s2 x y H2,Inv X pins σ H2 s2→RelV x v→RelV y u→R x y H2→wpAny (model X.prog X.w) X.A (f v u) Q X.xe s2):
  wpAny (model X.prog X.w) X.A (eval a X.env) (fun v s₁=>wpAny (model X.prog X.w) X.A (eval b X.env) (fun u s₂=>wpAny (model X.prog X.w) X.A (f v u) Q X.xe s₂) X.xe s₁) X.xe s:=by
 refine thn (ha pins s σ H _ I h) fun v s1 ⟨x,H1,I1,r1,q1⟩=>?_
 refine thn (hb pins s1 σ H1 _ I1 q1) fun u s2 ⟨y,H2,I2,r2,q2⟩=>?_
 exact hf v u s2 x y H2 I2 r1 r2 q2
def tVar(i:Nat):TE:=fun σ H Q=>∃ v,σ[i]?=some (some v)∧Q v H
def tC(v:V):TE:=fun _ H Q=>Q v H
theorem Ab{i:Nat}{x:Str}{pos:Pos}(hN:X.N[i]?=some x)(hv:Vis X.env.scope x)(hd:(x==("__debug__":Str))=false:=by decide)(hcd:(x==("__classdict__":Str))=false:=by decide):PE X (.Name x pos) (tVar i):=by
 intro pins s σ H Q I h
 obtain⟨v,e,h⟩:=h
 obtain⟨m,hn,hl⟩:=I.loc
 obtain⟨u,r,l⟩:=hl i x v hN e hv
 have fin:EP X pins σ Q u s:=⟨v,H,I,r,h⟩
 rcases l with⟨hk,hm⟩|⟨hk,c,hc,hcell⟩
 ·exact wpAny_Name (wpAny_loadName_local I.ok.kind hk hn hm fin) hd
 ·rcases hk with hk|hk
  ·exact wpAny_Name (wpAny_loadName_cell I.ok.kind hk hc hcell fin) hd
  ·exact wpAny_Name (wpAny_loadName_free I.ok.kind hk hc hcell fin hcd) hd
theorem az{i j pos}:PE X (.Constant (.int i) j pos) (tC (.int i)):=fun _ _ _ H _ I h=>wpAny_Constant_int ⟨.int i,H,I.tok _,⟨_,rfl⟩,h⟩
theorem nF{b j pos}:PE X (.Constant (.bool b) j pos) (tC (.bl b)):=fun _ _ _ H _ I h=>Constant_bool ⟨.bl b,H,I,rfl,h⟩
theorem cz{j pos}:PE X (.Constant .none j pos) (tC .non):=fun _ _ _ H _ I h=>Constant_none ⟨.non,H,I,rfl,h⟩
def Gl(X:Cx)(x:Str):Prop:=X.env.kindOf x=some .globalImplicit
theorem uJ{E:Value→Shared→Prop}{pins:List (Addr×Obj)}{s:Shared}{σ:St}{H:Hp}{x:Str}{u:Value}{pos:Pos}{Q:Value→Shared→Prop}(I:Inv X pins σ H s)(hg:Gl X x)(hm:X.mg x=some u)(h:Q u s)
  (hd:(x==("__debug__":Str))=false:=by decide):wpAny (model X.prog X.w) X.A (eval (.Name x pos) X.env) Q E s:=
 Calls.Name_function_global I.ok.kind hg (Calls.loadGlobal_global (by rw[I.ok.glob];exact I.mod.glob.keeps I.bk) hm h) hd
theorem ly{E:Value→Shared→Prop}{pins:List (Addr×Obj)}{s:Shared}{σ:St}{H:Hp}{x:Str}{u:Value}{pos:Pos}{Q:Value→Shared→Prop}(I:Inv X pins σ H s)(hg:Gl X x)(hm:X.mg x=none)(hv:bootBuiltins x=some u)(h:Q u s)
  (hn:x≠"__name__":=by decide) (hd:(x==("__debug__":Str))=false:=by decide):wpAny (model X.prog X.w) X.A (eval (.Name x pos) X.env) Q E s:=by
 obtain⟨mb,h1,h2⟩:=I.mod.blt
 exact Calls.Name_function_global I.ok.kind hg (Calls.loadGlobal_builtin (by rw[I.ok.glob];exact I.mod.glob.keeps I.bk) hm (by rw[I.ok.blt];exact h1.keeps I.bk) ((h2 x hn).trans hv) h) hd
theorem aD{x:Str}{v:V}{u:Value}{pos:Pos}(hg:Gl X x)(hm:X.mg x=some u)(r:RelV v u)(hd:(x==("__debug__":Str))=false:=by decide):PE X (.Name x pos) (tC v):=
 fun _ _ _ H _ I h=>uJ I hg hm ⟨v,H,I,r,h⟩ hd
variable{a b:Expr}{ta tb:TE}{pos:Pos}
def PC(X:Cx)(op:CmpOp)(a b:Expr)(t:TE):Prop:=
 ∀(pins:List (Addr×Obj)) (s:Shared) (σ:St) (H:Hp) (Q:VK),Inv X pins σ H s→t σ H Q→
  wpAny (model X.prog X.w) X.A (eval a X.env) (fun v s₁=>wpAny (model X.prog X.w) X.A (eval b X.env) (fun u s₂=>wpAny (model X.prog X.w) X.A (compareOp op v u) (EP X pins σ Q) X.xe s₂) X.xe s₁) X.xe s
theorem nobehind(b:Expr){op:CmpOp}(h:op≠ .In)(h2:op≠ .NotIn):behindInMarks op b=false:=by
 have e1:(op==CmpOp.In)=false:=by cases op<;>first|rfl|exact absurd rfl h
 have e2:(op==CmpOp.NotIn)=false:=by cases op<;>first|rfl|exact absurd rfl h2
 cases b<;>simp[behindInMarks,e1,e2]
def tIsN(ta:TE):TE:=fun σ H Q=>ta σ H fun x H1=>Q (.bl (decide (x= .non))) H1
theorem RelV.none_iff{x:V}{v:Value}(r:RelV x v):(v==Value.none)=decide (x= .non):=by
 cases x with
 |non=>cases r;rfl
 |bl _=>cases r;rfl
 |int _=>obtain⟨t,rfl⟩:=r;rfl
 |str _=>obtain⟨t,rfl⟩:=r;rfl
 |byt _=>obtain⟨t,rfl⟩:=r;rfl
 |flt _=>obtain⟨t,rfl⟩:=r;rfl
 |ref _=>cases r;rfl
 |ty _=>cases r;rfl
theorem ub{j pos'}(ha:PE X a ta):PC X .Is a (.Constant .none j pos') (tIsN ta):=by
 intro pins s σ H Q I h
 refine thn (ha pins s σ H _ I h) fun v s1 ⟨x,H1,I1,r1,q1⟩=>?_
 exact Constant_none (is_none_gen ⟨.bl _,H1,I1,by rw[r1.none_iff];rfl,q1⟩)
def tB(t:TE):TT:=fun σ H Q=>t σ H fun x H1=>∃ c,x= .bl c∧Q c H1
theorem AA{op:CmpOp}{t:TE}(h:PC X op a b t)(h1:behindInMarks op b=false:=by first|exact nobehind _ (by decide) (by decide)|rfl):PE X (.Compare a [op] [b] pos) t:=fun pins s σ H Q I hw=>wpAny_Compare1 (h pins s σ H Q I hw) h1
theorem cI{op:CmpOp}{t:TE}(h:PC X op a b t)(h1:behindInMarks op b=false:=by first|exact nobehind _ (by decide) (by decide)|rfl):PT X (.Compare a [op] [b] pos) (tB t):=by
 intro pins s σ H Q I hw
 refine wpAny_isTrue_Compare1 (thn (h pins s σ H _ I hw) fun v s1 h1=>thn h1 fun u s2 h2=>thn h2 fun c s3 ⟨x,H1,I1,r1,q1⟩=>?_) h1
 obtain⟨d,rfl,q⟩:=q1
 cases r1
 exact wpAny_truthy_bool ⟨H1,I1,q⟩
theorem bS{e:Expr}{t:TE}(h:PE X e t)(he:∀ whole,isTrue e X.env whole=(do let v ← whole;standAt e.pos;holding [v] (truthy v)):=by intro _;rfl):PT X e (tB t):=by
 intro pins s σ H Q I hw
 refine isTrue_plain (thn (h pins s σ H _ I hw) fun v s1 ⟨x,H1,I1,r1,q1⟩=>?_) (he _)
 obtain⟨d,rfl,q⟩:=q1
 cases r1
 exact wpAny_truthy_bool ⟨H1,I1,q⟩
variable{tA tB':TT}{rest:List Expr}
def tOr(t u:TT):TT:=fun σ H Q=>t σ H fun c H1=>if c=true then Q true H1 else u σ H1 Q
def tNot(t:TT):TT:=fun σ H Q=>t σ H fun c H1=>Q (!c) H1
theorem eW(ha:PT X a tA):PW X (.BoolOp .Or [a] pos) tA:=by
 intro wh pins s σ H Q I h
 refine isTrue_or (thn (ha pins s σ H Q I h) fun c s1 e=>?_)
 cases c with
 |false=>exact isTrue_or_nil e
 |true=>exact e
theorem gy(ha:PT X a tA)(hb:PW X (.BoolOp .Or (b::rest) pos) tB'):PW X (.BoolOp .Or (a::b::rest) pos) (tOr tA tB'):=by
 intro wh pins s σ H Q I h
 refine isTrue_or (thn (ha pins s σ H _ I h) fun c s1 ⟨H1,I1,q1⟩=>?_)
 cases c with
 |true=>exact⟨H1,I1,q1⟩
 |false=>exact hb wh pins s1 σ H1 Q I1 q1
theorem bV(ha:PT X a tA):PT X (.UnaryOp .Not a pos) (tNot tA):=by
 intro pins s σ H Q I h
 exact isTrue_not (ha pins s σ H (fun c H1=>Q (!c) H1) I h)
def tAndV(ta tb:TE):TE:=fun σ H Q=>ta σ H fun x H1=>∃ c,x= .bl c∧if c=true then tb σ H1 Q else Q (.bl false) H1
def tOrV(ta tb:TE):TE:=fun σ H Q=>ta σ H fun x H1=>∃ c,x= .bl c∧if c=true then Q (.bl true) H1 else tb σ H1 Q
theorem mN{op}{t:TE}(h:PE X a t):PE X (.BoolOp op [a] pos) t:=fun pins s σ H Q I hw=>BoolOp_one (h pins s σ H Q I hw)
theorem lV(ha:PE X a ta)(hb:PE X (.BoolOp .And (b::rest) pos) tb):PE X (.BoolOp .And (a::b::rest) pos) (tAndV ta tb):=by
 intro pins s σ H Q I h
 refine BoolOp_and (thn (ha pins s σ H _ I h) fun v s1 ⟨x,H1,I1,r1,q1⟩=>?_)
 obtain⟨c,rfl,q1⟩:=q1
 cases r1
 refine wpAny_truthy_bool ?_
 cases c with
 |true=>exact hb pins s1 σ H1 Q I1 q1
 |false=>exact⟨.bl false,H1,I1,rfl,q1⟩
theorem pe_or(ha:PE X a ta)(hb:PE X (.BoolOp .Or (b::rest) pos) tb):PE X (.BoolOp .Or (a::b::rest) pos) (tOrV ta tb):=by
 intro pins s σ H Q I h
 refine BoolOp_or (thn (ha pins s σ H _ I h) fun v s1 ⟨x,H1,I1,r1,q1⟩=>?_)
 obtain⟨c,rfl,q1⟩:=q1
 cases r1
 refine wpAny_truthy_bool ?_
 cases c with
 |false=>exact hb pins s1 σ H1 Q I1 q1
 |true=>exact⟨.bl true,H1,I1,rfl,q1⟩
def tIf(t:TT)(ta tb:TE):TE:=fun σ H Q=>t σ H fun c H1=>if c=true then ta σ H1 Q else tb σ H1 Q
theorem fw{c:Expr}(hc:PT X c tA)(ha:PE X a ta)(hb:PE X b tb):PE X (.IfExp c a b pos) (tIf tA ta tb):=by
 intro pins s σ H Q I h
 refine wpAny_IfExp (thn (hc pins s σ H _ I h) fun d s1 ⟨H1,I1,q1⟩=>?_)
 cases d with
 |true=>exact ha pins s1 σ H1 Q I1 q1
 |false=>exact hb pins s1 σ H1 Q I1 q1
end
def SqL(K:Frag)(H:Hp)(a:Addr)(xs:List V):Prop:=
 Rd H a (.lst xs)∨
  ∃(o:Obj) (its:Array Value) (n:Nat),K.lookup a=some o∧o.cls= .type "list"∧o.dict=none∧o.data= .seq its n∧its.size≤sizeLine∧Vals xs its.toList
def SqT(K:Frag)(H:Hp)(a:Addr)(xs:List V):Prop:=
 Rd H a (.tup xs)∨
  ∃(o:Obj) (its:Array Value) (n:Nat),K.lookup a=some o∧o.cls= .type "tuple"∧o.data= .seq its n∧its.size≤sizeLine∧Vals xs its.toList
def absV:Value→Option V
 | .none=>some .non
 | .bool b=>some (.bl b)
 | .int i _=>some (.int i)
 | .str x _=>some (.str x)
 | .bytes b _=>some (.byt b)
 | .float b _=>some (.flt b)
 | .ref a=>some (.ref a)
 | .type n=>some (.ty n)
 |_=>none
theorem RelV.abs{x:V}{u:Value}(r:RelV x u):absV u=some x:=by
 cases x with
 |non=>cases r;rfl
 |bl _=>cases r;rfl
 |int _=>obtain⟨t,rfl⟩:=r;rfl
 |str _=>obtain⟨t,rfl⟩:=r;rfl
 |byt _=>obtain⟨t,rfl⟩:=r;rfl
 |flt _=>obtain⟨t,rfl⟩:=r;rfl
 |ref _=>cases r;rfl
 |ty _=>cases r;rfl
theorem RelV.inj{x y:V}{u:Value}(r:RelV x u)(q:RelV y u):x=y:=Option.some.inj (r.abs.symm.trans q.abs)
theorem Vals.inj:∀{xs ys:List V} {us:List Value},Vals xs us→Vals ys us→xs=ys
 |_,_,_,.nil,.nil=>rfl
 |_,_,_,.cons r t,.cons r' t'=>by rw[r.inj r',Vals.inj t t']
section
variable{X:Cx}{pins:List (Addr×Obj)}{σ:St}{H:Hp}{s:Shared}{a:Addr}{xs ys:List V}
theorem SqL.of{K:Frag}(h:H a=some (.lst xs)):SqL K H a xs:= .inl (.inl h)
theorem SqT.of{K:Frag}(h:H a=some (.tup xs)):SqT K H a xs:= .inl (.inl h)
theorem Inv.list(I:Inv X pins σ H s)(h:SqL X.K H a xs):∃ its:List Value,Vals xs its∧PlainL s.heap a its.toArray∧xs.length≤sizeLine:=by
 rcases h with h|⟨o,its,n,hk,hc,hd,hs,hz,r⟩
 ·obtain⟨z,its,n,r,e⟩:=h.ok I.hok
  exact⟨its,r,⟨_,n,e,rfl,rfl,rfl⟩,z⟩
 ·refine⟨its.toList,r,⟨o,n,I.kIn a o hk,hc,hd,by simpa using hs⟩,?_⟩
  have e:=r.length
  simp only[Array.length_toList]at e
  omega
theorem Inv.tuple(I:Inv X pins σ H s)(h:SqT X.K H a xs):∃ its:List Value,Vals xs its∧IsTup s.heap a its.toArray∧xs.length≤sizeLine:=by
 rcases h with h|⟨o,its,n,hk,hc,hs,hz,r⟩
 ·obtain⟨z,its,r,p⟩:=h.ok I.hok
  exact⟨its,r,p,z⟩
 ·refine⟨its.toList,r,⟨o,I.kIn a o hk,hc,n,by simpa using hs⟩,?_⟩
  have e:=r.length
  simp only[Array.length_toList]at e
  omega
theorem Inv.list_inj(I:Inv X pins σ H s)(h:SqL X.K H a xs)(h':SqL X.K H a ys):xs=ys:=by
 obtain⟨its,r,⟨o,n,e,_,_,d⟩,_⟩:=I.list h
 obtain⟨its',r',⟨o',n',e',_,_,d'⟩,_⟩:=I.list h'
 rw[e]at e';cases e'
 rw[d]at d'
 injection d' with d1 _
 have:its=its':=by simpa using congrArg Array.toList d1
 subst this
 exact r.inj r'
theorem Inv.tuple_inj(I:Inv X pins σ H s)(h:SqT X.K H a xs)(h':SqT X.K H a ys):xs=ys:=by
 obtain⟨its,r,⟨o,e,_,n,d⟩,_⟩:=I.tuple h
 obtain⟨its',r',⟨o',e',_,n',d'⟩,_⟩:=I.tuple h'
 rw[e]at e';cases e'
 rw[d]at d'
 injection d' with d1 _
 have:its=its':=by simpa using congrArg Array.toList d1
 subst this
 exact r.inj r'
end
abbrev Cx.wish(X:Cx)(E:Value→Shared→Prop):Cx:={X with xe:=E }
abbrev Cx.nox(X:Cx):Cx:=X.wish fun _ _=>False
theorem Cx.Ok.wish{X:Cx}(ok:X.Ok)(E:Value→Shared→Prop):(X.wish E).Ok:=
 ⟨ok.mod,ok.kind,ok.glob,ok.blt,ok.above,ok.inj,ok.has,ok.cab,ok.hd,ok.frames,ok.stk,ok.exf,ok.bs,ok.bsz,ok.noex,ok.exfs,ok.funs,ok.frf⟩
theorem Cx.Ok.unwish{X:Cx}{E:Value→Shared→Prop}(ok:(X.wish E).Ok):X.Ok:=
 ⟨ok.mod,ok.kind,ok.glob,ok.blt,ok.above,ok.inj,ok.has,ok.cab,ok.hd,ok.frames,ok.stk,ok.exf,ok.bs,ok.bsz,ok.noex,ok.exfs,ok.funs,ok.frf⟩
section
variable{X:Cx}{pins:List (Addr×Obj)}{σ:St}{H:Hp}{s:Shared}{E:Value→Shared→Prop}
theorem Inv.wish(I:Inv X pins σ H s)(E:Value→Shared→Prop):Inv (X.wish E) pins σ H s:=⟨I.ok.wish E,I.os,I.bare,I.base,I.loc,I.cell,I.free,I.freeC,I.pin,I.hok,I.len⟩
theorem Inv.unwish(I:Inv (X.wish E) pins σ H s):Inv X pins σ H s:=⟨I.ok.unwish,I.os,I.bare,I.base,I.loc,I.cell,I.free,I.freeC,I.pin,I.hok,I.len⟩
theorem SP.unwish{D:rG}{f:Flow}{s':Shared}(h:SP (X.wish E) pins D f s'):SP X pins D f s':=by
 cases f with
 |next=>obtain⟨σ',H',I,q⟩:=h;exact⟨σ',H',I.unwish,q⟩
 |brk=>obtain⟨σ',H',I,q⟩:=h;exact⟨σ',H',I.unwish,q⟩
 |cont=>obtain⟨σ',H',I,q⟩:=h;exact⟨σ',H',I.unwish,q⟩
 |ret u=>obtain⟨v,σ',H',I,r,q⟩:=h;exact⟨v,σ',H',I.unwish,r,q⟩
theorem PSs.nox{st:List Stmt}{t:TS}(h:PSs X.nox st t):PSs X st t:=fun pins s σ H D I hw=>
 wpAny_mono (h pins s σ H D (I.wish _) hw) (fun _ _ q=>q.unwish) fun _ _ z=>False.elim z
end
section
variable{X:Cx}{st:Stmt}{rest:List Stmt}{t u:TS}{e:Expr}{te:TE}{pos:Pos}
def tNext:TS:=fun D σ H=>D.nx σ H
def tSeq(t u:TS):TS:=fun D σ H=>t {D with nx:=u D } σ H
theorem aG:PSs X [] tNext:=fun _ _ σ H _ I h=>wpAny_execs_nil ⟨σ,H,I,h⟩
theorem af(h1:PS X st t)(h2:PSs X rest u):PSs X (st::rest) (tSeq t u):=by
 intro pins s σ H D I h
 refine wpAny_execs_cons (thn (h1 pins s σ H {D with nx:=u D } I h) fun f s1 q=>?_)
 cases f with
 |next=>
  obtain⟨σ',H',I',q⟩:=q
  exact h2 pins s1 σ' H' D I' q
 |ret v=>exact q
 |brk=>exact q
 |cont=>exact q
theorem aj(h1:PS X st t):PSs X [st] t:=by
 intro pins s σ H D I h
 refine wpAny_execs_cons (thn (h1 pins s σ H D I h) fun f s1 q=>?_)
 cases f with
 |next=>exact wpAny_execs_nil q
 |ret v=>exact q
 |brk=>exact q
 |cont=>exact q
theorem Inv.quiet{pins:List (Addr×Obj)}{σ:St}{H:Hp}{s:Shared}(I:Inv X pins σ H s):interactive X.env=false:=by simp[interactive,I.ok.kind]
def tDrop(te:TE):TS:=fun D σ H=>te σ H fun _ H1=>D.nx σ H1
theorem cj(he:PE X e te)(hs:swapsWith e none pos.line X.env=pure false:=by rfl):PS X (.Expr e pos) (tDrop te):=by
 intro pins s σ H D I h
 exact wpAny_Expr_any (thn (he pins s σ H _ I h) fun v s1 ⟨x,H1,I1,r1,q1⟩=>⟨σ,H1,I1,q1⟩) I.quiet hs
def tRet(te:TE):TS:=fun D σ H=>te σ H D.rt
theorem au(he:PE X e te):PS X (.Return (some e) pos) (tRet te):=by
 intro pins s σ H D I h
 exact wpAny_Return_some (thn (he pins s σ H _ I h) fun v s1 ⟨x,H1,I1,r1,q1⟩=>⟨x,σ,H1,I1,r1,q1⟩)
def tIfS(c:TT)(t u:TS):TS:=fun D σ H=>c σ H fun b H1=>if b=true then t D σ H1 else u D σ H1
theorem aQ{c:Expr}{a b:List Stmt}{tc:TT}(hc:PT X c tc)(ha:PSs X a t)(hb:PSs X b u):PS X (.If c a b pos) (tIfS tc t u):=by
 intro pins s σ H D I h
 refine wpAny_If (thn (hc pins s σ H _ I h) fun d s1 ⟨H1,I1,q1⟩=>?_)
 cases d with
 |true=>exact ha pins s1 σ H1 D I1 q1
 |false=>exact hb pins s1 σ H1 D I1 q1
end
abbrev TG:=V→St→Hp→(St→Hp→Prop)→Prop
abbrev TGs:=List V→St→Hp→(St→Hp→Prop)→Prop
def PG(X:Cx)(target:Expr)(t:TG):Prop:=
 ∀(pins:List (Addr×Obj)) (s:Shared) (σ:St) (H:Hp) (v:V) (u:Value) (Q:St→Hp→Prop),Inv X pins σ H s→RelV v u→t v σ H Q→
  wpAny (model X.prog X.w) X.A (assign target X.env u) (fun _ s'=>∃ σ' H',Inv X pins σ' H' s'∧Q σ' H') X.xe s
def PGs(X:Cx)(ts:List Expr)(t:TGs):Prop:=
 ∀(pins:List (Addr×Obj)) (s:Shared) (σ:St) (H:Hp) (vs:List V) (us:List Value) (Q:St→Hp→Prop),Inv X pins σ H s→Vals vs us→t vs σ H Q→
  wpAny (model X.prog X.w) X.A (assignInOrder ((assignEach ts X.env).map (·.2)) us) (fun _ s'=>∃ σ' H',Inv X pins σ' H' s'∧Q σ' H') X.xe s
abbrev AD:=V→V→V→Hp→(Hp→Prop)→Prop
def PSet(X:Cx)(t:AD):Prop:=
 ∀(pins:List (Addr×Obj)) (s:Shared) (σ:St) (H:Hp) (o i v:V) (ov iv u:Value) (Q:Hp→Prop),Inv X pins σ H s→RelV o ov→RelV i iv→RelV v u→t o i v H Q→
  wpAny (model X.prog X.w) X.A (setItem ov iv u) (fun _ s'=>∃ H',Inv X pins σ H' s'∧Q H') X.xe s
section
variable{X:Cx}{pos:Pos}
def gS(i:Nat):TG:=fun v σ H Q=>Q (σ.set i (some v)) H
theorem aA{i:Nat}{x:Str}(hN:X.N.Nodup)(hi:X.N[i]?=some x)(hx:Loc X.env.scope x)(hf:X.fn x=true∨X.env.scope.names.lookup x=some .local:=by first|exact .inl rfl|exact .inr rfl|assumption):PG X (.Name x pos) (gS i):=by
 intro pins s σ H v u Q I r h
 exact wpAny_assign_Name (qz I hN hi hx r (fun s' I'=>⟨_,H,I',h⟩) hf)
def gNil:TGs:=fun vs σ H Q=>vs=[]∧Q σ H
def gCons(t:TG)(u:TGs):TGs:=fun vs σ H Q=>∃ v r,vs=v::r∧t v σ H fun σ' H'=>u r σ' H' Q
theorem uY:PGs X [] gNil:=by
 intro pins s σ H vs us Q I r h
 obtain⟨e,h⟩:=h
 subst e
 cases r
 exact assignInOrder_nil ⟨σ,H,I,h⟩
theorem il{e:Expr}{es:List Expr}{t:TG}{u:TGs}(h1:PG X e t)(h2:PGs X es u)
  (hs:(assignEach (e::es) X.env).map (·.2)=assign e X.env::(assignEach es X.env).map (·.2):=by rfl):PGs X (e::es) (gCons t u):=by
 intro pins s σ H vs us Q I r h
 obtain⟨v,vr,e1,h⟩:=h
 subst e1
 cases r with
 |cons r rr=>
  rw[hs]
  refine assignInOrder_cons (thn (h1 pins s σ H _ _ _ I r h) fun _ s1 ⟨σ1,H1,I1,q1⟩=>?_)
  exact h2 pins s1 σ1 H1 _ _ Q I1 rr q1
def gTup(K:Frag)(n:Nat)(t:TGs):TG:=fun v σ H Q=>∃ a xs,v= .ref a∧SqT K H a xs∧xs.length=n∧t xs σ H Q
theorem zW{es:List Expr}{k:Nat}{t:TGs}{n:Nat}(hc:X.calm=true)(h:PGs X es t)
  (hn:(assignEach es X.env).length=n:=by rfl) (hst:(assignEach es X.env).findIdx? (·.1)=none:=by rfl):PG X (.Tuple es k pos) (gTup X.K n t):=by
 intro pins s σ H v u Q I r hw
 obtain⟨a,xs,e1,hq,hl,hw⟩:=hw
 subst e1
 cases r
 obtain⟨its,rv,ht,hz⟩:=I.tuple hq
 refine assign_Tuple_tuple (I.ok.hd hc) ht (by simp[hn,← hl,rv.length]) hst fun h' hx=>?_
 have I1:Inv X pins σ H {s with heap:=h' }:=I.kept (t':=s.toks) fun b o e=>hx b o (ne_of_lt (Heap.lt_size e)) e
 exact h pins _ σ H xs _ Q I1 (by simpa using rv) hw
def gSub(to ti:TE)(t:AD):TG:=fun v σ H Q=>to σ H fun o H1=>ti σ H1 fun i H2=>t o i v H2 fun H3=>Q σ H3
theorem eO{o i:Expr}{to ti:TE}{t:AD}(ho:PE X o to)(hi:PE X i ti)(hs:PSet X t)
  (ha:∀ v,assign (.Subscript o i pos) X.env v=(do
   let ov ← holding [v] (eval o X.env)
   let iv ← holding [v,ov] (eval i X.env)
   standAt pos
   holding [v,ov,iv] (setItem ov iv v)
   release [v,ov,iv] []):=by intro _;rfl):PG X (.Subscript o i pos) (gSub to ti t):=by
 intro pins s σ H v u Q I r h
 rw[ha]
 refine wpAny_bind (wpAny_holding (thn (ho pins s σ H _ I h) fun ov s1 ⟨x,H1,I1,r1,q1⟩=>?_))
 refine wpAny_bind (wpAny_holding (thn (hi pins s1 σ H1 _ I1 q1) fun iv s2 ⟨y,H2,I2,r2,q2⟩=>?_))
 refine wpAny_bind (wpAny_standAt (wpAny_bind (wpAny_holding (thn (hs pins s2 σ H2 x y v ov iv u _ I2 r1 r2 r q2) fun _ s3 ⟨H3,I3,q3⟩=>?_))))
 exact wpAny_release ⟨σ,H3,I3,q3⟩
def Aj(te:TE)(g:TG):TS:=fun D σ H=>te σ H fun x H1=>g x σ H1 D.nx
theorem eP{tg e:Expr}{te:TE}{g:TG}(he:PE X e te)(hg:PG X tg g)(hs:swapsWithSole [tg] e pos.line X.env=pure false:=by rfl)(hw:swappedStores [tg] e X.env=pure none:=by rfl)
  (h1:(assignEach [tg] X.env).map (·.2)=[assign tg X.env]:=by rfl):PS X (.Assign [tg] e pos) (Aj te g):=by
 intro pins s σ H D I h
 refine wpAny_Assign_stores (thn (he pins s σ H _ I h) fun v s1 ⟨x,H1,I1,r1,q1⟩=>?_) hs hw
 rw[h1]
 exact thn (hg pins s1 σ H1 x v _ I1 r1 q1) fun _ s2 q=>q
theorem ay{i:Nat}{x:Str}{e:Expr}{te:TE}{pos':Pos}(hN:X.N.Nodup)(hi:X.N[i]?=some x)(hx:Loc X.env.scope x)(he:PE X e te)(hs:swapsWith e (some (.Name x pos')) pos.line X.env=pure false:=by rfl)(hf:X.fn x=true∨X.env.scope.names.lookup x=some .local:=by first|exact .inl rfl|exact .inr rfl|assumption):
  PS X (.Assign [.Name x pos'] e pos) (Aj te (gS i)):=by
 intro pins s σ H D I h
 refine wpAny_Assign_Name (thn (he pins s σ H _ I h) fun v s1 ⟨y,H1,I1,r1,q1⟩=>?_) hs
 exact qz I1 hN hi hx r1 (fun s2 I2=>⟨_,H1,I2,q1⟩) hf
end
section
variable{X:Cx}{pos:Pos}
def Am(c:TT)(tb:TS):TS:=fun D σ H=>∃ W:Nat→St→Hp→Prop,(∃ m,W m σ H)∧∀ m σ H,W m σ H→
 c σ H fun b H1=>if b=true then ∃ N:St→Hp→Prop,(∀ σ' H',N σ' H'→∃ m',m'<m∧W m' σ' H')∧tb {D with nx:=N,ct:=N,bk:=D.nx } σ H1 else D.nx σ H1
theorem dR{c:Expr}{body:List Stmt}{tc:TT}{tb:TS}(hp:PassesOwn (model X.prog X.w) X.A X.env X.xe)(hc:PT X c tc)(hb:PSs X body tb):PS X (.While c body [] pos) (Am tc tb):=by
 intro pins s σ H D I h
 obtain⟨W,⟨m0,w0⟩,turn⟩:=h
 refine wpAny_While (codeAny_whileLoop (fun n s'=>∃ σ' H',Inv X pins σ' H' s'∧W n σ' H') ?_ m0 ⟨σ,H,I,w0⟩)
 rintro n s1 ⟨σ1,H1,I1,w1⟩
 refine wpAny_passesOwn hp (thn (hc pins s1 σ1 H1 _ I1 (turn n σ1 H1 w1)) fun b s2 ⟨H2,I2,q2⟩=>?_)
 cases b with
 |true=>
  obtain⟨N,hN,q2⟩:=q2
  rw[if_pos rfl]
  refine wpAny_passesOwn hp (thn (hb pins s2 σ1 H2 _ I2 q2) fun f s3 q3=>?_)
  cases f with
  |next=>
   obtain⟨σ3,H3,I3,n3⟩:=q3
   obtain⟨m',hm,w3⟩:=hN σ3 H3 n3
   exact⟨m',hm,σ3,H3,I3,w3⟩
  |cont=>
   obtain⟨σ3,H3,I3,n3⟩:=q3
   obtain⟨m',hm,w3⟩:=hN σ3 H3 n3
   exact⟨m',hm,σ3,H3,I3,w3⟩
  |brk=>exact q3
  |ret v=>exact q3
 |false=>
  rw[if_neg Bool.false_ne_true]
  exact wpAny_execs_nil ⟨σ1,H2,I2,q2⟩
end
structure It where
 go:Nat→Hp→Prop
 yld:Nat→Hp→V→Hp→Prop
 stop:Nat→Hp→Prop
def jZ(X:Cx)(pins:List (Addr×Obj))(H:Hp)(b:Addr):Prop:=
 H b=none∧b≠X.env.locals∧b∉X.fs∧(b∈X.ex∨X.s_0.heap.objs.size≤b)∧(∀ x c,X.env.cells.lookup x=some c→c≠b)∧∀ p∈X.pn++pins,p.1≠b
theorem Inv.fpOk{X:Cx}{pins:List (Addr×Obj)}{σ:St}{H H':Hp}{s:Shared}{b:Addr}(I:Inv X pins σ H s)(hb:s.heap.objs.size≤b)(hn:H' b=none):jZ X pins H' b:=by
 refine⟨hn,Nat.ne_of_gt (lt_of_lt_of_le I.lt hb),I.nofs hb,.inr (le_trans I.sz hb),fun x c e z=>?_,fun p hp z=>?_⟩
 ·obtain⟨v,q⟩:=I.cell x c e
  exact absurd (lt_of_lt_of_le q.lt (by rw[z];exact hb)) (lt_irrefl _)
 ·exact absurd (lt_of_lt_of_le (Heap.lt_size (I.pin p hp).1) (by rw[z];exact hb)) (lt_irrefl _)
structure pL(P:Program)(w:World)(K:Frag)(tg:Expr)(J:It)(fp:List Addr)(it:Addr)(tn:Nat→Heap→Prop):Prop where
 mem:it∈fp
 obj:∀ i h,tn i h→∀ b∈fp,∃ o,h.get? b=some o∧∀ v,o.data≠ .cell v
 keep:∀ i h h',tn i h→(∀ b∈fp,∀ o,h.get? b=some o→h'.get? b=some o)→tn i h'
 item:∀(X:Cx),X.prog=P→X.w=w→X.K=K→X.calm=true→∀(i:Nat) (pins:List (Addr×Obj)) (s:Shared) (σ:St) (H:Hp) (E:Value→Shared→Prop),Inv X pins σ H s→(∀ b∈fp,jZ X pins H b)→tn i s.heap→J.go i H→
  wpAny (model P w) X.A (pyNext (.ref it)) (fun r s1=>∃ u,r=some u∧
   wpAny (model P w) X.A (letOwnedTupleGo tg (.ref it) u) (fun _ s2=>∃ x H',Inv X pins σ H' s2∧RelV x u∧J.yld i H x H'∧tn (i+1) s2.heap∧∀ b∈fp,H' b=none) E s1) E s
 done:∀(X:Cx),X.prog=P→X.w=w→X.K=K→X.calm=true→∀(i:Nat) (pins:List (Addr×Obj)) (s:Shared) (σ:St) (H:Hp) (E:Value→Shared→Prop),Inv X pins σ H s→(∀ b∈fp,jZ X pins H b)→tn i s.heap→J.stop i H→
  wpAny (model P w) X.A (pyNext (.ref it)) (fun r s1=>r=none∧Inv X pins σ H s1) E s
 self:∀(A:Around) (i:Nat) (s:Shared) (Q:Value→Shared→Prop) (E:Value→Shared→Prop),tn i s.heap→Q (.ref it) s→wpAny (model P w) A (pyIter (.ref it)) Q E s
abbrev TI:=St→Hp→(It→Hp→Prop)→Prop
def PIE(X:Cx)(pins:List (Addr×Obj))(σ:St)(tg:Expr)(R:It→Hp→Prop)(itv:Value)(s2:Shared):Prop:=
 ∃(it:Addr) (fp:List Addr) (tn:Nat→Heap→Prop) (J:It) (H':Hp),itv= .ref it∧Inv X pins σ H' s2∧pL X.prog X.w X.K tg J fp it tn∧tn 0 s2.heap∧(∀ b∈fp,jZ X pins H' b)∧R J H'
def PI(X:Cx)(tg iter:Expr)(wi:TI):Prop:=
 ∀(pins:List (Addr×Obj)) (s:Shared) (σ:St) (H:Hp) (R:It→Hp→Prop),Inv X pins σ H s→wi σ H R→
  wpAny (model X.prog X.w) X.A (eval iter X.env) (fun v s1=>wpAny (model X.prog X.w) X.A (pyIter v) (PIE X pins σ tg R) X.xe s1) X.xe s
theorem oR{M:Model}{A:Around}{E:Value→Shared→Prop}{s:Shared}{tg:Expr}{it:Addr}{u:Value}{o:Obj}{n:String}{vs:Array Value}{Q:Unit→Shared→Prop}(ho:s.heap.get? it=some o)(hc:o.cls= .type n)(hd:o.data= .fields vs)
  (hn:["enumerate","zip","dict_itemiterator","dict_reverseitemiterator","odict_iterator","itertools.zip_longest","itertools.pairwise"].contains n=false) (hQ:Q () s):wpAny M A (letOwnedTupleGo tg (.ref it) u) Q E s:=by
 unfold letOwnedTupleGo
 cases tg<;>first
  |exact wpAny_pure hQ
  |(cases u<;>first
    |exact wpAny_pure hQ
    |(refine wpAny_bind (wpAny_load ho ?_)
      rw[hc,hd]
      show wpAny M A (if(["enumerate","zip","dict_itemiterator","dict_reverseitemiterator","odict_iterator","itertools.zip_longest","itertools.pairwise"].contains n&&vs[0]?==some (rawInt _))=true then _ else _) Q E s
      rw[if_neg (by intro h;rw[hn,Bool.false_and]at h;cases h)]
      exact wpAny_pure hQ))
def Itl(K:Frag)(a:Addr):It:=
 ⟨fun i H=>∃ xs x,SqL K H a xs∧xs[i]?=some x,fun i H x H'=>H'=H∧∀ xs,SqL K H a xs→xs[i]?=some x,fun i H=>∃ xs,SqL K H a xs∧xs.length≤i⟩
def Itt(K:Frag)(a:Addr):It:=
 ⟨fun i H=>∃ xs x,SqT K H a xs∧xs[i]?=some x,fun i H x H'=>H'=H∧∀ xs,SqT K H a xs→xs[i]?=some x,fun i H=>∃ xs,SqT K H a xs∧xs.length≤i⟩
def Itr(lo:Int)(n:Nat):It:=⟨fun i _=>i<n,fun i H x H'=>H'=H∧x= .int (lo+i),fun i _=>n≤i⟩
theorem wu{P:Program}{w:World}{K:Frag}{tg:Expr}(a it:Addr):pL P w K tg (Itl K a) [it] it (fun i h=>h.IsListIter it a i) where
 mem:=by simp
 obj:=fun i h st b hb=>by
  have e:b=it:=by simpa using hb
  subst e
  obtain⟨o,e,c,d⟩:=st
  exact⟨o,e,fun v z=>by rw[d]at z;cases z⟩
 keep:=fun i h h' st k=>st.at fun o e=>k it (by simp) o e
 item:=by
  intro X hP hw hK hc i pins s σ H E I hf st hg
  subst hP hw hK
  obtain⟨xs,x,hq,hx⟩:=hg
  obtain⟨its,rv,p,hz⟩:=I.list hq
  obtain⟨u,hu,ru⟩:=rv.get hx
  obtain⟨f0,f1,f2,f3,f4,f5⟩:=hf it (by simp)
  refine wpAny_pyNext_list_item st p.isList (x:=u) (by simpa using hu) fun h' st' sb=>?_
  have I1:Inv X pins σ H {s with heap:=h' }:=I.turned (t':=s.toks) (fun b o hb e=>(sb.2 b hb).trans e) f0 f1 f3 f4 f5
  obtain⟨o,e,c,d⟩:=id st'
  exact⟨u,rfl,oR (s:={s with heap:=h' }) e c d (by decide) ⟨x,H,I1,ru,⟨rfl,fun ys hy=>by rw[I.list_inj hy hq];exact hx⟩,st',fun b hb=>(hf b hb).1⟩⟩
 done:=by
  intro X hP hw hK hc i pins s σ H E I hf st hg
  subst hP hw hK
  obtain⟨xs,hq,hx⟩:=hg
  obtain⟨its,rv,p,hz⟩:=I.list hq
  obtain⟨f0,f1,f2,f3,f4,f5⟩:=hf it (by simp)
  have hl:=rv.length
  exact wpAny_pyNext_list_end (I.ok.hd hc) st p.isList (by simp;omega) fun h' eb=>⟨rfl,I.turned (t':=s.toks) (fun b o hb e=>eb b o hb e) f0 f1 f3 f4 f5⟩
 self:=fun _ _ _ _ _ st h=>wpAny_pyIter_listiter st h
theorem tW{P:Program}{w:World}{K:Frag}{tg:Expr}(a it:Addr):pL P w K tg (Itt K a) [it] it (fun i h=>h.IsTupleIter it a i) where
 mem:=by simp
 obj:=fun i h st b hb=>by
  have e:b=it:=by simpa using hb
  subst e
  obtain⟨o,e,c,d⟩:=st
  exact⟨o,e,fun v z=>by rw[d]at z;cases z⟩
 keep:=fun i h h' st k=>st.at fun o e=>k it (by simp) o e
 item:=by
  intro X hP hw hK hc i pins s σ H E I hf st hg
  subst hP hw hK
  obtain⟨xs,x,hq,hx⟩:=hg
  obtain⟨its,rv,p,hz⟩:=I.tuple hq
  obtain⟨u,hu,ru⟩:=rv.get hx
  obtain⟨f0,f1,f2,f3,f4,f5⟩:=hf it (by simp)
  refine wpAny_pyNext_tuple_item st (show s.heap.IsTuple a its.toArray from p) (x:=u) (by simpa using hu) fun h' st' sb=>?_
  have I1:Inv X pins σ H {s with heap:=h' }:=I.turned (t':=s.toks) (fun b o hb e=>(sb.2 b hb).trans e) f0 f1 f3 f4 f5
  obtain⟨o,e,c,d⟩:=id st'
  exact⟨u,rfl,oR (s:={s with heap:=h' }) e c d (by decide) ⟨x,H,I1,ru,⟨rfl,fun ys hy=>by rw[I.tuple_inj hy hq];exact hx⟩,st',fun b hb=>(hf b hb).1⟩⟩
 done:=by
  intro X hP hw hK hc i pins s σ H E I hf st hg
  subst hP hw hK
  obtain⟨xs,hq,hx⟩:=hg
  obtain⟨its,rv,p,hz⟩:=I.tuple hq
  obtain⟨f0,f1,f2,f3,f4,f5⟩:=hf it (by simp)
  have hl:=rv.length
  exact wpAny_pyNext_tuple_end (I.ok.hd hc) st (show s.heap.IsTuple a its.toArray from p) (by simp;omega) fun h' eb=>⟨rfl,I.turned (t':=s.toks) (fun b o hb e=>eb b o hb e) f0 f1 f3 f4 f5⟩
 self:=fun _ _ _ _ _ st h=>wpAny_pyIter_tupleiter st h
theorem sV{P:Program}{w:World}{K:Frag}{tg:Expr}(it:Addr)(lo:Int)(n:Nat):pL P w K tg (Itr lo n) [it] it (fun i h=>IsRangeIter h it (lo+(i:Nat)*1) ((n:Int) - (i:Nat)) 1) where
 mem:=by simp
 obj:=fun i h st b hb=>by
  have e:b=it:=by simpa using hb
  subst e
  exact⟨_,st,fun v z=>by
   have z':Data.fields _=Data.cell v:=z
   cases z'⟩
 keep:=fun i h h' st k=>k it (by simp) _ st
 item:=by
  intro X hP hw hK hc i pins s σ H E I hf st hg
  subst hP hw hK
  obtain⟨f0,f1,f2,f3,f4,f5⟩:=hf it (by simp)
  have W:=Walks.range (prog:=X.prog) (w:=X.w) (I.ok.hd hc) it lo 1 n
  refine W.item i s _ _ hg st fun v h' tk hv st' kk=>?_
  obtain⟨t,rfl⟩:=hv
  have I1:Inv X pins σ H {s with heap:=h',toks:=tk }:=I.turned (fun b o hb e=>kk b o (by simpa using hb) e) f0 f1 f3 f4 f5
  refine⟨_,rfl,oR (s:={s with heap:=h',toks:=tk }) (n:="range_iterator") st' rfl rfl (by decide) ⟨.int (lo+i),H,I1,⟨t,?_⟩,⟨rfl,rfl⟩,st',fun b hb=>(hf b hb).1⟩⟩
  rw[Int.mul_one]
 done:=by
  intro X hP hw hK hc i pins s σ H E I hf st hg
  subst hP hw hK
  obtain⟨f0,f1,f2,f3,f4,f5⟩:=hf it (by simp)
  exact wpAny_pyNext_range_end (I.ok.hd hc) st (by have:n≤i:=hg;omega) fun h' eb=>⟨rfl,I.turned (t':=s.toks) (fun b o hb e=>eb b o hb e) f0 f1 f3 f4 f5⟩
 self:=fun _ _ _ _ _ st h=>wpAny_pyIter_rangeiter st h
section
variable{X:Cx}{tg:Expr}
def zN(K:Frag)(tl:TE):TI:=fun σ H R=>tl σ H fun x H1=>∃ a,x= .ref a∧(∃ xs,SqL K H1 a xs)∧R (Itl K a) H1
def iTup(K:Frag)(tl:TE):TI:=fun σ H R=>tl σ H fun x H1=>∃ a,x= .ref a∧(∃ xs,SqT K H1 a xs)∧R (Itt K a) H1
theorem aY{l:Expr}{tl:TE}(hl:PE X l tl):PI X tg l (zN X.K tl):=by
 intro pins s σ H R I h
 refine thn (hl pins s σ H _ I h) fun v s1 ⟨x,H1,I1,r1,q1⟩=>?_
 obtain⟨a,e,⟨xs,hq⟩,q⟩:=q1
 subst e
 cases r1
 obtain⟨its,rv,p,hz⟩:=I1.list hq
 refine wpAny_pyIter_list p.isList ?_
 refine⟨s1.heap.objs.size,[s1.heap.objs.size],_,_,H1,rfl,I1.kept (t':=s1.toks) fun b o e=>Heap.get?_push_of_some _ e,wu a _,⟨_,Heap.get?_push_size _ rfl,rfl,rfl⟩,fun b hb=>?_,q⟩
 have e:b=s1.heap.objs.size:=by simpa using hb
 subst e
 exact I1.fpOk (le_refl _) (I1.hok.fresh (le_refl _))
theorem Az{l:Expr}{tl:TE}(hl:PE X l tl):PI X tg l (iTup X.K tl):=by
 intro pins s σ H R I h
 refine thn (hl pins s σ H _ I h) fun v s1 ⟨x,H1,I1,r1,q1⟩=>?_
 obtain⟨a,e,⟨xs,hq⟩,q⟩:=q1
 subst e
 cases r1
 obtain⟨its,rv,p,hz⟩:=I1.tuple hq
 refine wpAny_pyIter_tuple (show s1.heap.IsTuple a its.toArray from p) ?_
 refine⟨s1.heap.objs.size,[s1.heap.objs.size],_,_,H1,rfl,I1.kept (t':=s1.toks) fun b o e=>Heap.get?_push_of_some _ e,tW a _,⟨_,Heap.get?_push_size _ rfl,rfl,rfl⟩,fun b hb=>?_,q⟩
 have e:b=s1.heap.objs.size:=by simpa using hb
 subst e
 exact I1.fpOk (le_refl _) (I1.hok.fresh (le_refl _))
theorem yq{pins:List (Addr×Obj)}{σ:St}{H:Hp}{s:Shared}{R:It→Hp→Prop}{E:Value→Shared→Prop}{lo hi:Int}{t u v:Tok}{tk:Nat}(I:Inv X pins σ H s)(h1: -(2 ^ 62)≤lo)(h2:lo<2 ^ 62)(h3: -(2 ^ 62)≤hi)(h4:hi<2 ^ 62)
  (q:R (Itr lo (hi - lo).toNat) H):wpAny (model X.prog X.w) X.A (pyIter (.ref s.heap.objs.size)) (PIE X pins σ tg R) E {s with heap:=s.heap.push {cls:= .type "range",data:= .fields #[.int lo t,.int hi u,.int 1 v] },toks:=tk }:=by
 refine wpAny_pyIter_range (IsRange.new ..) (small_one h1 h2 h3 h4) ?_
 have I1:Inv X pins σ H {s with heap:=s.heap.push {cls:= .type "range",data:= .fields #[.int lo t,.int hi u,.int 1 v] },toks:=tk }:=I.kept fun b o e=>Heap.get?_push_of_some _ e
 refine⟨(s.heap.push {cls:= .type "range",data:= .fields #[.int lo t,.int hi u,.int 1 v] }).objs.size,[(s.heap.push {cls:= .type "range",data:= .fields #[.int lo t,.int hi u,.int 1 v] }).objs.size],_,_,H,rfl,
  I1.kept (t':=tk) fun b o e=>Heap.get?_push_of_some _ e,sV _ lo (hi - lo).toNat,?_,fun b hb=>?_,q⟩
 ·have e1:lo+((0:Nat):Int)*1=lo:=by simp
  have e2:(((hi - lo).toNat:Nat):Int) - ((0:Nat):Int)=Builtin.Range.rangeSize lo hi 1:=by rw[rangeSize_one];split<;>omega
  show IsRangeIter _ _ (lo+((0:Nat):Int)*1) ((((hi - lo).toNat:Nat):Int) - ((0:Nat):Int)) 1
  rw[e1,e2]
  exact Heap.get?_push_size _ rfl
 ·have e:b=(s.heap.push {cls:= .type "range",data:= .fields #[.int lo t,.int hi u,.int 1 v] }).objs.size:=by simpa using hb
  subst e
  exact I1.fpOk (le_refl _) (I1.hok.fresh (le_refl _))
def iRng1(ta:TA):TI:=fun σ H R=>ta σ H fun vs H1=>∃ j:Int,vs=[.int j]∧ -(2 ^ 62)≤j∧j<2 ^ 62∧R (Itr 0 j.toNat) H1
theorem a5{a:Expr}{ta:TA}{p pos:Pos}(hg:Gl X "range")(hm:X.mg "range"=none)(ha:PA X [a] ta)(hs:starEach [a] X.env=[(false,eval a X.env)]:=by rfl):PI X tg (.Call (.Name "range" p) [a] [] pos) (iRng1 ta):=by
 intro pins s σ H R I h
 refine Call_ (ly I hg hm boot_range (PyProof.Rows.callWith_type1 (thn (ha pos pins s σ H _ I h) fun us s1 ⟨vs,H1,I1,r1,q1⟩=>?_) hs rfl))
 obtain⟨j,e,q1,q2,q⟩:=q1
 subst e
 cases r1 with
 |cons r rr=>
  cases rr
  obtain⟨t,rfl⟩:=r
  exact call_range_1 (yq I1 (by omega) (by omega) q1 q2 (by simpa using q))
def tFor(wi:TI)(g:TG)(tb:TS):TS:=fun D σ H=>wi σ H fun J H1=>∃ W:Nat→Nat→St→Hp→Prop,(∃ m,W 0 m σ H1)∧∀ i m σ H,W i m σ H→
 (J.stop i H∧D.nx σ H)∨(J.go i H∧∃ N:St→Hp→Prop,(∀ σ' H',N σ' H'→∃ m',m'<m∧W (i+1) m' σ' H')∧∀ x H',J.yld i H x H'→g x σ H' fun σ2 H2=>tb {D with nx:=N,ct:=N,bk:=D.nx } σ2 H2)
def mP(fp:List Addr)(h:Heap):List (Addr×Obj):=fp.filterMap fun b=>(h.get? b).map fun o=>(b,o)
theorem g9{fp:List Addr}{h:Heap}{b:Addr}{o:Obj}(hb:b∈fp)(e:h.get? b=some o):(b,o)∈mP fp h:=List.mem_filterMap.mpr ⟨b,hb,by rw[e];rfl⟩
theorem wy{fp:List Addr}{h:Heap}{p:Addr×Obj}(hp:p∈mP fp h):p.1∈fp∧h.get? p.1=some p.2:=by
 obtain⟨b,hb,e⟩:=List.mem_filterMap.mp hp
 cases q:h.get? b with
 |none=>rw[q]at e;cases e
 |some o=>
  rw[q]at e
  have e':(b,o)=p:=Option.some.inj e
  subst e'
  exact⟨hb,q⟩
theorem Inv.pinned{pins:List (Addr×Obj)}{σ:St}{H:Hp}{s:Shared}{fp:List Addr}(I:Inv X pins σ H s)(hf:∀ b∈fp,jZ X pins H b)(ho:∀ b∈fp,∃ o,s.heap.get? b=some o∧∀ v,o.data≠ .cell v):Inv X (pins++mP fp s.heap) σ H s:=
 I.pins_of fun p hp=>(mem_append.mp hp).elim (fun z=>I.pin p (mem_append_right _ z)) fun z=>by
  obtain⟨hb,e⟩:=wy z
  obtain⟨f0,f1,f2,_⟩:=hf p.1 hb
  obtain⟨o,e',d⟩:=ho p.1 hb
  rw[e]at e';cases e'
  exact⟨e,f0,f1,f2,d⟩
theorem Inv.unpinned{pins pl:List (Addr×Obj)}{σ:St}{H:Hp}{s:Shared}(I:Inv X (pins++pl) σ H s):Inv X pins σ H s:=I.pins_of fun p hp=>I.pin p (mem_append_right _ (mem_append_left _ hp))
theorem bC{iter:Expr}{body:List Stmt}{wi:TI}{g:TG}{tb:TS}{pos:Pos}(hp:PassesOwn (model X.prog X.w) X.A X.env X.xe)(hc:X.calm=true)(hi:PI X tg iter wi)(hg:PG X tg g)(hb:PSs X body tb)
  (hs:∀ x,foldedSetIterable iter X.env x=pure x:=by intro _;rfl):PS X (.For tg iter body [] pos) (tFor wi g tb):=by
 intro pins s σ H D I h
 refine wpAny_For (thn (hi pins s σ H _ I h) fun v s1 h1=>thn h1 fun itv s2 h2=>?_) hs
 obtain⟨it,fp,tn,J,H2,e,I2,T,st2,f2,W,⟨m0,w0⟩,turn⟩:=h2
 subst e
 have stat:∀{H':Hp},(∀ b∈fp,H' b=none)→∀ b∈fp,jZ X pins H' b:=fun hn b hb=>⟨hn b hb,(f2 b hb).2⟩
 refine codeAny_forLoop_any (fun n s'=>∃ i σ' H',Inv X pins σ' H' s'∧tn i s'.heap∧(∀ b∈fp,H' b=none)∧W i n σ' H') ?_ m0 ⟨0,σ,H2,I2,st2,fun b hb=>(f2 b hb).1,w0⟩
 rintro n s3 ⟨i,σ3,H3,I3,st3,fr3,w3⟩
 rcases turn i n σ3 H3 w3 with⟨stop,qn⟩|⟨go,N,hN,step⟩
 ·refine wpAny_passesOwn hp (thn (T.done X rfl rfl rfl hc i pins s3 σ3 H3 X.xe I3 (stat fr3) st3 stop) fun r s4 ⟨hr,I4⟩=>?_)
  subst hr
  exact wpAny_execs_nil ⟨σ3,H3,I4,qn⟩
 ·refine wpAny_passesOwn hp (thn (T.item X rfl rfl rfl hc i pins s3 σ3 H3 X.xe I3 (stat fr3) st3 go) fun r s4 ⟨u,hr,h4⟩=>?_)
  subst hr
  refine wpAny_passesOwn hp (thn h4 fun _ s5 ⟨x,H5,I5,r5,y5,st5,fr5⟩=>?_)
  have I5':=I5.pinned (stat fr5) (T.obj _ _ st5)
  refine wpAny_passesOwn hp (thn (hg _ s5 σ3 H5 x u _ I5' r5 (step x H5 y5)) fun _ s6 ⟨σ6,H6,I6,q6⟩=>?_)
  refine wpAny_passesOwn hp (thn (hb _ s6 σ6 H6 _ I6 q6) fun f s7 q7=>?_)
  have again:∀{σ7:St} {H7:Hp},Inv X (pins++mP fp s5.heap) σ7 H7 s7→N σ7 H7→∃ m,m<n∧∃ i σ' H',Inv X pins σ' H' s7∧tn i s7.heap∧(∀ b∈fp,H' b=none)∧W i m σ' H':=fun {σ7 H7} I7 n7=>by
   obtain⟨m',hm,w7⟩:=hN σ7 H7 n7
   refine⟨m',hm,i+1,σ7,H7,I7.unpinned,T.keep _ _ _ st5 fun b hb o e=>(I7.pin (b,o) (mem_append_right _ (mem_append_right _ (g9 hb e)))).1,fun b hb=>?_,w7⟩
   obtain⟨o,e,d⟩:=T.obj _ _ st5 b hb
   exact(I7.pin (b,o) (mem_append_right _ (mem_append_right _ (g9 hb e)))).2.1
  cases f with
  |next=>obtain⟨σ7,H7,I7,n7⟩:=q7;exact again I7 n7
  |cont=>obtain⟨σ7,H7,I7,n7⟩:=q7;exact again I7 n7
  |brk=>obtain⟨σ7,H7,I7,q7⟩:=q7;exact⟨σ7,H7,I7.unpinned,q7⟩
  |ret v=>obtain⟨x7,σ7,H7,I7,r7,q7⟩:=q7;exact⟨x7,σ7,H7,I7.unpinned,r7,q7⟩
end
theorem kW{K:Frag}{a:Addr}{xs:List V}{g:TG}{tb:TS}{D:rG}{σ:St}{H:Hp}(Pv:Nat→St→Hp→Prop)(h0:Pv 0 σ H)(hl:∀ i σ H,i≤xs.length→Pv i σ H→SqL K H a xs)
  (hs:∀ i x σ H,xs[i]?=some x→Pv i σ H→g x σ H fun σ2 H2=>tb {D with nx:=Pv (i+1),ct:=Pv (i+1),bk:=D.nx } σ2 H2) (hd:∀ σ H,Pv xs.length σ H→D.nx σ H):
  ∃ W:Nat→Nat→St→Hp→Prop,(∃ m,W 0 m σ H)∧∀ i m σ H,W i m σ H→
   ((Itl K a).stop i H∧D.nx σ H)∨((Itl K a).go i H∧∃ N:St→Hp→Prop,(∀ σ' H',N σ' H'→∃ m',m'<m∧W (i+1) m' σ' H')∧∀ x H',(Itl K a).yld i H x H'→g x σ H' fun σ2 H2=>tb {D with nx:=N,ct:=N,bk:=D.nx } σ2 H2):=by
 refine⟨fun i m σ H=>m=xs.length - i∧i≤xs.length∧Pv i σ H,⟨xs.length,by simp,zero_le _,h0⟩,?_⟩
 rintro i m σ H ⟨rfl,hi,p⟩
 have q:=hl i σ H hi p
 by_cases hlt:i<xs.length
 ·refine .inr ⟨⟨xs,xs[i],q,by simp[hlt]⟩,Pv (i+1),fun σ' H' p'=>⟨xs.length - (i+1),by omega,rfl,hlt,p'⟩,fun x H' y=>?_⟩
  obtain⟨e,y⟩:=y
  subst e
  exact hs i x σ _ (y xs q) p
 ·have e:i=xs.length:=by omega
  subst e
  exact .inl ⟨⟨xs,q,le_refl _⟩,hd σ H p⟩
theorem cX{lo:Int}{n:Nat}{g:TG}{tb:TS}{D:rG}{σ:St}{H:Hp}(Pv:Nat→St→Hp→Prop)(h0:Pv 0 σ H)
  (hs:∀ i σ H,i<n→Pv i σ H→g (.int (lo+i)) σ H fun σ2 H2=>tb {D with nx:=Pv (i+1),ct:=Pv (i+1),bk:=D.nx } σ2 H2) (hd:∀ σ H,Pv n σ H→D.nx σ H):
  ∃ W:Nat→Nat→St→Hp→Prop,(∃ m,W 0 m σ H)∧∀ i m σ H,W i m σ H→
   ((Itr lo n).stop i H∧D.nx σ H)∨((Itr lo n).go i H∧∃ N:St→Hp→Prop,(∀ σ' H',N σ' H'→∃ m',m'<m∧W (i+1) m' σ' H')∧∀ x H',(Itr lo n).yld i H x H'→g x σ H' fun σ2 H2=>tb {D with nx:=N,ct:=N,bk:=D.nx } σ2 H2):=by
 refine⟨fun i m σ H=>m=n - i∧i≤n∧Pv i σ H,⟨n,by simp,zero_le _,h0⟩,?_⟩
 rintro i m σ H ⟨rfl,hi,p⟩
 by_cases hlt:i<n
 ·refine .inr ⟨hlt,Pv (i+1),fun σ' H' p'=>⟨n - (i+1),by omega,rfl,hlt,p'⟩,fun x H' y=>?_⟩
  obtain⟨e,y⟩:=y
  subst e y
  exact hs i σ _ hlt p
 ·have e:i=n:=by omega
  subst e
  exact .inl ⟨le_refl _,hd σ H p⟩
abbrev R2:=V→V→Hp→VK→Prop
def OpR(X:Cx)(f:Value→Value→Sem Value)(r:R2):Prop:=
 ∀(pins:List (Addr×Obj)) (s:Shared) (σ:St) (H:Hp) (x y:V) (v u:Value) (Q:VK),Inv X pins σ H s→RelV x v→RelV y u→r x y H Q→
  wpAny (model X.prog X.w) X.A (f v u) (EP X pins σ Q) X.xe s
def UnR(X:Cx)(f:Value→Sem Value)(r:V→Hp→VK→Prop):Prop:=
 ∀(pins:List (Addr×Obj)) (s:Shared) (σ:St) (H:Hp) (x:V) (v:Value) (Q:VK),Inv X pins σ H s→RelV x v→r x H Q→
  wpAny (model X.prog X.w) X.A (f v) (EP X pins σ Q) X.xe s
def dr(X:Cx)(f:Value)(r:List V→Hp→VK→Prop):Prop:=
 ∀(pins:List (Addr×Obj)) (s:Shared) (σ:St) (H:Hp) (xs:List V) (us:List Value) (Q:VK),Inv X pins σ H s→Vals xs us→r xs H Q→
  wpAny (model X.prog X.w) X.A (call f us) (EP X pins σ Q) X.xe s
def tOp(r:R2)(ta tb:TE):TE:=fun σ H Q=>ta σ H fun x H1=>tb σ H1 fun y H2=>r x y H2 Q
def tUn(r:V→Hp→VK→Prop)(ta:TE):TE:=fun σ H Q=>ta σ H fun x H1=>r x H1 Q
def rI(C:Int→Int→Prop)(g:Int→Int→V):R2:=fun x y H Q=>∃ i j,x= .int i∧y= .int j∧C i j∧Q (g i j) H
def rI0(g:Int→Int→V):R2:=fun x y H Q=>∃ i j,x= .int i∧y= .int j∧Q (g i j) H
def rU(g:Int→V):V→Hp→VK→Prop:=fun x H Q=>∃ i,x= .int i∧Q (g i) H
section
variable{X:Cx}{a b c:Expr}{ta tb tc:TE}{pos:Pos}
theorem Ao(ha:PE X a ta)(hb:PE X b tb){pins:List (Addr×Obj)}{s:Shared}{σ:St}{H:Hp}{R:V→V→Hp→Prop}(I:Inv X pins σ H s)
  (h:ta σ H fun x H1=>tb σ H1 fun y H2=>R x y H2) {Q:Value→Shared→Prop} {f:Value→Value→Sem Value}
  (hf:∀ v u s2 x y H2,Inv X pins σ H2 s2→RelV x v→RelV y u→R x y H2→wpAny (model X.prog X.w) X.A (f v u) Q X.xe s2):
  wpAny (model X.prog X.w) X.A (eval a X.env) (fun v s₁=>wpAny (model X.prog X.w) X.A (eval b X.env) (fun u s₂=>wpAny (model X.prog X.w) X.A (f v u) Q X.xe s₂) X.xe s₁) X.xe s:=by
 refine thn (ha pins s σ H _ I h) fun v s1 ⟨x,H1,I1,r1,q1⟩=>?_
 refine thn (hb pins s1 σ H1 _ I1 q1) fun u s2 ⟨y,H2,I2,r2,q2⟩=>?_
 exact hf v u s2 x y H2 I2 r1 r2 q2
theorem a0{op:Operator}{r:R2}(ho:OpR X (binaryOp op) r)(ha:PE X a ta)(hb:PE X b tb):PE X (.BinOp a op b pos) (tOp r ta tb):=by
 intro pins s σ H Q I h
 exact wpAny_BinOp (Ao ha hb I h fun v u s2 x y H2 I2 rx ry q=>ho pins s2 σ H2 x y v u Q I2 rx ry q)
theorem xG{op:UnaryOp}{r:V→Hp→VK→Prop}(ho:UnR X (unaryOp op) r)(ha:PE X a ta):PE X (.UnaryOp op a pos) (tUn r ta):=by
 intro pins s σ H Q I h
 exact UnaryOp_ (thn (ha pins s σ H _ I h) fun v s1 ⟨x,H1,I1,r1,q1⟩=>ho pins s1 σ H1 x v Q I1 r1 q1)
theorem opI{f:Value→Value→Sem Value}{C:Int→Int→Prop}{g:Int→Int→Int}
  (rule:∀(i j:Int) (t u:Tok) (s:Shared) (Q:Value→Shared→Prop) (E:Value→Shared→Prop),C i j→Q (.int (g i j) s.toks) {s with toks:=s.toks+1 }→wpAny (model X.prog X.w) X.A (f (.int i t) (.int j u)) Q E s):
  OpR X f (rI C fun i j=> .int (g i j)):=by
 intro pins s σ H x y v u Q I rx ry h
 obtain⟨i,j,rfl,rfl,hc,q⟩:=h
 obtain⟨t,rfl⟩:=rx
 obtain⟨t',rfl⟩:=ry
 exact rule i j t t' s _ _ hc ⟨.int (g i j),H,I.tok _,⟨_,rfl⟩,q⟩
theorem opI0{f:Value→Value→Sem Value}{g:Int→Int→Int}
  (rule:∀(i j:Int) (t u:Tok) (s:Shared) (Q:Value→Shared→Prop) (E:Value→Shared→Prop),Q (.int (g i j) s.toks) {s with toks:=s.toks+1 }→wpAny (model X.prog X.w) X.A (f (.int i t) (.int j u)) Q E s):
  OpR X f (rI0 fun i j=> .int (g i j)):=by
 intro pins s σ H x y v u Q I rx ry h
 obtain⟨i,j,rfl,rfl,q⟩:=h
 obtain⟨t,rfl⟩:=rx
 obtain⟨t',rfl⟩:=ry
 exact rule i j t t' s _ _ ⟨.int (g i j),H,I.tok _,⟨_,rfl⟩,q⟩
theorem AK{f:Value→Value→Sem Value}{g:Int→Int→Bool}
  (rule:∀(i j:Int) (t u:Tok) (s:Shared) (Q:Value→Shared→Prop) (E:Value→Shared→Prop),Q (.bool (g i j)) s→wpAny (model X.prog X.w) X.A (f (.int i t) (.int j u)) Q E s):
  OpR X f (rI0 fun i j=> .bl (g i j)):=by
 intro pins s σ H x y v u Q I rx ry h
 obtain⟨i,j,rfl,rfl,q⟩:=h
 obtain⟨t,rfl⟩:=rx
 obtain⟨t',rfl⟩:=ry
 exact rule i j t t' s _ _ ⟨.bl (g i j),H,I,rfl,q⟩
def CDiv(i j:Int):Prop:=0<j∧j<1073741824
def CMul(i j:Int):Prop:=(-(2 ^ 64)<i∧i<2 ^ 64)∨(-(2 ^ 64)<j∧j<2 ^ 64)
theorem CMul.ok{i j:Int}(h:CMul i j):IntMulOk i j:=by
 rcases h with⟨h1,h2⟩|⟨h1,h2⟩
 ·exact .of_left (intBits_le_64 h1 h2)
 ·exact .of_right (intBits_le_64 h1 h2)
theorem cJ:OpR X (binaryOp .Add) (rI0 fun i j=> .int (i+j)):=opI0 fun _ _ _ _ _ _ _ q=>add_int q
theorem i9:OpR X (binaryOp .Sub) (rI0 fun i j=> .int (i - j)):=opI0 fun _ _ _ _ _ _ _ q=>sub_int q
theorem jb:OpR X (binaryOp .Mult) (rI CMul fun i j=> .int (i*j)):=opI fun _ _ _ _ _ _ _ hc q=>mul_int q hc.ok
theorem iL:OpR X (binaryOp .FloorDiv) (rI CDiv fun i j=> .int (i / j)):=opI fun i j _ _ _ _ _ hc q=>by
 have h1:(0:Int)<j:=hc.1
 have h2:j<1073741824:=hc.2
 exact floordiv_int (by omega) (by rw[Int.fdiv_eq_ediv_of_nonneg i (by omega)];exact q) (.inl (PyProof.noPylong_small (by omega)))
theorem jl:OpR X (binaryOp .Mod) (rI (fun _ j=>0<j) fun i j=> .int (i % j)):=opI fun i j _ _ _ _ _ hc q=>by
 have h1:(0:Int)<j:=hc
 exact mod_int' (by omega) (by rw[Int.fmod_eq_emod_of_nonneg i (by omega)];exact q)
theorem unI{f:Value→Sem Value}{g:Int→Int}
  (rule:∀(i:Int) (t:Tok) (s:Shared) (Q:Value→Shared→Prop) (E:Value→Shared→Prop),Q (.int (g i) s.toks) {s with toks:=s.toks+1 }→wpAny (model X.prog X.w) X.A (f (.int i t)) Q E s):
  UnR X f (rU fun i=> .int (g i)):=by
 intro pins s σ H x v Q I rx h
 obtain⟨i,rfl,q⟩:=h
 obtain⟨t,rfl⟩:=rx
 exact rule i t s _ _ ⟨.int (g i),H,I.tok _,⟨_,rfl⟩,q⟩
theorem uw:UnR X (unaryOp .USub) (rU fun i=> .int (-i)):=unI fun _ _ _ _ _ q=>neg_int q
end
def scal:V→V→Bool
 | .non,.non=>true| .non,.int _=>true| .int _,.non=>true| .non,.bl _=>true| .bl _,.non=>true| .non,.str _=>true| .str _,.non=>true
 | .int _,.int _=>true| .bl _,.bl _=>true| .str _,.str _=>true| .byt _,.byt _=>true
 | .int _,.str _=>true| .str _,.int _=>true| .bl _,.str _=>true| .str _,.bl _=>true
 |_,_=>false
def rEq:R2:=fun x y H Q=>scal x y=true∧Q (.bl (decide (x=y))) H
def rNe:R2:=fun x y H Q=>scal x y=true∧Q (.bl (!decide (x=y))) H
theorem va{i j:Int}:decide (V.int i=V.int j)=(i==j):=by
 rw[Bool.eq_iff_iff]
 simp
theorem xg{i j:Bool}:decide (V.bl i=V.bl j)=(i==j):=by
 rw[Bool.eq_iff_iff]
 simp
theorem vA{i j:Str}:decide (V.str i=V.str j)=(i==j):=by
 rw[Bool.eq_iff_iff]
 simp
theorem vi{i j:Array UInt8}:decide (V.byt i=V.byt j)=(i.toList==j.toList):=by
 rw[Bool.eq_iff_iff]
 cases i
 cases j
 simp
section
variable{X:Cx}{a b c:Expr}{ta tb tc:TE}{pos:Pos}
theorem aZ{pins:List (Addr×Obj)}{σ:St}{H:Hp}{s:Shared}{Q:VK}{k k':Bool}(I:Inv X pins σ H s)(q:Q (.bl k) H)(e:k=k'):EP X pins σ Q (.bool k') s:=by
 subst e
 exact⟨.bl k,H,I,rfl,q⟩
theorem bE:OpR X (compareOp .Eq) rEq:=by
 intro pins s σ H x y v u Q I rx ry h
 obtain⟨hs,q⟩:=h
 cases x with
 |non=>
  cases rx
  cases y with
  |non=>cases ry;exact PySem.EqNone.eq_none_none (aZ I q (by simp))
  |bl j=>cases ry;exact PySem.EqNone.eq_none_bool (aZ I q (by simp))
  |int j=>obtain⟨t',rfl⟩:=ry;exact PySem.EqNone.eq_none_int (aZ I q (by simp))
  |str j=>obtain⟨t',rfl⟩:=ry;exact PySem.EqNone.eq_none_str (aZ I q (by simp))
  |_=>exact absurd (show false=true from hs) Bool.false_ne_true
 |bl i=>
  cases rx
  cases y with
  |non=>cases ry;exact PySem.EqNone.eq_bool_none (aZ I q (by simp))
  |bl j=>cases ry;exact eq_bool (aZ I q xg)
  |str j=>obtain⟨t',rfl⟩:=ry;exact PySem.EqMixed.eq_bool_str (aZ I q (by simp))
  |_=>exact absurd (show false=true from hs) Bool.false_ne_true
 |int i=>
  obtain⟨t,rfl⟩:=rx
  cases y with
  |non=>cases ry;exact PySem.EqNone.eq_int_none (aZ I q (by simp))
  |int j=>obtain⟨t',rfl⟩:=ry;exact eq_int (aZ I q va)
  |str j=>obtain⟨t',rfl⟩:=ry;exact PySem.EqMixed.eq_int_str (aZ I q (by simp))
  |_=>exact absurd (show false=true from hs) Bool.false_ne_true
 |str i=>
  obtain⟨t,rfl⟩:=rx
  cases y with
  |non=>cases ry;exact PySem.EqNone.eq_str_none (aZ I q (by simp))
  |bl j=>cases ry;exact PySem.EqMixed.eq_str_bool (aZ I q (by simp))
  |int j=>obtain⟨t',rfl⟩:=ry;exact PySem.EqMixed.eq_str_int (aZ I q (by simp))
  |str j=>obtain⟨t',rfl⟩:=ry;exact eq_str (aZ I q vA)
  |_=>exact absurd (show false=true from hs) Bool.false_ne_true
 |byt i=>
  obtain⟨t,rfl⟩:=rx
  cases y with
  |byt j=>obtain⟨t',rfl⟩:=ry;exact PySem.W.eq_bytes (aZ I q vi)
  |_=>exact absurd (show false=true from hs) Bool.false_ne_true
 |_=>cases y<;>exact absurd (show false=true from hs) Bool.false_ne_true
theorem rD:OpR X (compareOp .NotEq) rNe:=by
 intro pins s σ H x y v u Q I rx ry h
 obtain⟨hs,q⟩:=h
 cases x with
 |non=>
  cases rx
  cases y with
  |non=>cases ry;exact PySem.EqNone.ne_none_none (aZ I q (by simp))
  |bl j=>cases ry;exact PySem.EqNone.ne_none_bool (aZ I q (by simp))
  |int j=>obtain⟨t',rfl⟩:=ry;exact PySem.EqNone.ne_none_int (aZ I q (by simp))
  |str j=>obtain⟨t',rfl⟩:=ry;exact PySem.EqNone.ne_none_str (aZ I q (by simp))
  |_=>exact absurd (show false=true from hs) Bool.false_ne_true
 |bl i=>
  cases rx
  cases y with
  |non=>cases ry;exact PySem.EqNone.ne_bool_none (aZ I q (by simp))
  |bl j=>cases ry;exact ne_bool (aZ I q (congrArg not xg))
  |str j=>obtain⟨t',rfl⟩:=ry;exact PySem.EqMixed.ne_bool_str (aZ I q (by simp))
  |_=>exact absurd (show false=true from hs) Bool.false_ne_true
 |int i=>
  obtain⟨t,rfl⟩:=rx
  cases y with
  |non=>cases ry;exact PySem.EqNone.ne_int_none (aZ I q (by simp))
  |int j=>obtain⟨t',rfl⟩:=ry;exact ne_int (aZ I q (congrArg not va))
  |str j=>obtain⟨t',rfl⟩:=ry;exact PySem.EqMixed.ne_int_str (aZ I q (by simp))
  |_=>exact absurd (show false=true from hs) Bool.false_ne_true
 |str i=>
  obtain⟨t,rfl⟩:=rx
  cases y with
  |non=>cases ry;exact PySem.EqNone.ne_str_none (aZ I q (by simp))
  |bl j=>cases ry;exact PySem.EqMixed.ne_str_bool (aZ I q (by simp))
  |int j=>obtain⟨t',rfl⟩:=ry;exact PySem.EqMixed.ne_str_int (aZ I q (by simp))
  |str j=>obtain⟨t',rfl⟩:=ry;exact ne_str (aZ I q (congrArg not vA))
  |_=>exact absurd (show false=true from hs) Bool.false_ne_true
 |byt i=>
  obtain⟨t,rfl⟩:=rx
  cases y with
  |byt j=>obtain⟨t',rfl⟩:=ry;exact PySem.W.ne_bytes (aZ I q (congrArg not vi))
  |_=>exact absurd (show false=true from hs) Bool.false_ne_true
 |_=>cases y<;>exact absurd (show false=true from hs) Bool.false_ne_true
theorem vE:OpR X (compareOp .Lt) (rI0 fun i j=> .bl (decide (i<j))):=AK fun _ _ _ _ _ _ _ q=>lt_int q
theorem nZ:OpR X (compareOp .LtE) (rI0 fun i j=> .bl (decide (i≤j))):=AK fun _ _ _ _ _ _ _ q=>le_int q
theorem oe:OpR X (compareOp .Gt) (rI0 fun i j=> .bl (decide (j<i))):=AK fun _ _ _ _ _ _ _ q=>gt_int q
theorem qa:OpR X (compareOp .Is) (fun x y H Q=>y= .non∧Q (.bl (decide (x= .non))) H):=by
 intro pins s σ H x y v u Q I rx ry h
 obtain⟨rfl,q⟩:=h
 cases ry
 refine is_none_gen (aZ I q ?_)
 cases x<;>first
  |(cases rx;rfl)
  |(obtain⟨t,rfl⟩:=rx;rfl)
theorem uH:OpR X (compareOp .IsNot) (fun x y H Q=>y= .non∧Q (.bl (!decide (x= .non))) H):=by
 intro pins s σ H x y v u Q I rx ry h
 obtain⟨rfl,q⟩:=h
 cases ry
 refine isnot_none_gen (aZ I q ?_)
 cases x<;>first
  |(cases rx;rfl)
  |(obtain⟨t,rfl⟩:=rx;rfl)
theorem nomark(b:Expr){op:CmpOp}(h:op≠ .In:=by decide)(h2:op≠ .NotIn:=by decide):behindInMarks op b=false:=by
 have e1:(op==CmpOp.In)=false:=by cases op<;>first|rfl|exact absurd rfl h
 have e2:(op==CmpOp.NotIn)=false:=by cases op<;>first|rfl|exact absurd rfl h2
 cases b<;>simp[behindInMarks,e1,e2]
theorem cD{op:CmpOp}{r:R2}(ho:OpR X (compareOp op) r)(ha:PE X a ta)(hb:PE X b tb)(hm:behindInMarks op b=false):PE X (.Compare a [op] [b] pos) (tOp r ta tb):=by
 intro pins s σ H Q I h
 exact wpAny_Compare1 (Ao ha hb I h fun v u s2 x y H2 I2 rx ry q=>ho pins s2 σ H2 x y v u Q I2 rx ry q) hm
def tTest(t:TE):TT:=fun σ H Q=>t σ H fun x H'=>∃ k,x= .bl k∧Q k H'
theorem aH{op:CmpOp}{r:R2}(ho:OpR X (compareOp op) r)(ha:PE X a ta)(hb:PE X b tb)(hm:behindInMarks op b=false):PT X (.Compare a [op] [b] pos) (tTest (tOp r ta tb)):=by
 intro pins s σ H Q I h
 refine wpAny_isTrue_Compare1 (thn (ha pins s σ H _ I h) fun v s1 ⟨x,H1,I1,r1,q1⟩=>thn (hb pins s1 σ H1 _ I1 q1) fun u s2 ⟨y,H2,I2,r2,q2⟩=>
  thn (ho pins s2 σ H2 x y v u _ I2 r1 r2 q2) fun c s3 ⟨z,H3,I3,r3,k,e,q3⟩=>?_) hm
 subst e
 cases r3
 exact wpAny_truthy_bool ⟨H3,I3,q3⟩
theorem pA:(sizeLine:Nat)<2 ^ 63:=by rw[sizeLine_eq];decide
theorem jI{x:V}{us:List Value}(r:Vals [x] us):∃ u,us=[u]∧RelV x u:=by
 cases r with
 |cons r1 r2=>cases r2;exact⟨_,rfl,r1⟩
end
theorem RelO.some_of{v:V}{o:Option Value}(r:RelO (some v) o):∃ u,o=some u∧RelV v u:=by
 cases o with
 |none=>exact(show False from r).elim
 |some u=>exact⟨u,rfl,r⟩
def InOp(X:Cx)(op:Operator)(rd:V→V→Hp→VK→Prop):Prop:=
 ∀(pins:List (Addr×Obj)) (s:Shared) (σ:St) (H:Hp) (x y:V) (u v:Value) (Q:VK),Inv X pins σ H s→RelV x u→RelV y v→rd x y H Q→wpAny (model X.prog X.w) X.A (inplaceOp op u v) (EP X pins σ Q) X.xe s
section
variable{X:Cx}{o e value:Expr}{f:Str}{pos pos' tpos:Pos}{ta tv:TE}
def rAdd:V→V→Hp→VK→Prop:=fun x y H Q=>∃ i j,x= .int i∧y= .int j∧Q (.int (i+j)) H
theorem Ae:InOp X .Add rAdd:=by
 rintro pins s σ H x y u v Q I rx ry ⟨i,j,rfl,rfl,q⟩
 obtain⟨t,rfl⟩:=(show ∃ t,u=Value.int i t from rx)
 obtain⟨t',rfl⟩:=(show ∃ t',v=Value.int j t' from ry)
 exact PyProof.Rows.iadd_int ⟨.int (i+j),H,I.tok _,⟨_,rfl⟩,q⟩
end
structure Room(k:Nat)(A:Around):Prop where
 hd:A.handled=none
 dp:A.depth+3*k+5<recursionLimit
 un:A.units+16*k+200<cLine
theorem Room.mono{j k:Nat}{A:Around}(r:Room k A)(h:j≤k):Room j A:=⟨r.hd,by have:=r.dp;omega,by have:=r.un;omega⟩
theorem Room.deeper{k:Nat}{A:Around}(r:Room (k+1) A)(env:Env):Room k (A.deeper env):=
 ⟨r.hd,by have:=r.dp;show A.depth+1+3*k+5<_;omega,by have:=r.un;show A.units+3+16*k+200<_;omega⟩
theorem Room.depth{k:Nat}{A:Around}(r:Room k A):A.depth<recursionLimit:=by have:=r.dp;omega
theorem Room.units{k:Nat}{A:Around}(r:Room k A):A.units+64<cLine:=by have:=r.un;omega
def zv:TA:=fun _ H Q=>Q [] H
def uK(ta:TE)(tr:TA):TA:=fun σ H Q=>ta σ H fun x H1=>tr σ H1 fun xs H2=>Q (x::xs) H2
section
variable{X:Cx}{e:Expr}{es:List Expr}{te:TE}{t:TA}{pos:Pos}
theorem ai:PA X [] zv:=fun _ _ _ _ H Q I h=>Calls.spliced_nil ⟨[],H,I,.nil,h⟩
theorem ae(ha:PE X e te)(hr:PA X es t)(hs:starEach (e::es) X.env=(false,eval e X.env)::starEach es X.env:=by rfl):PA X (e::es) (uK te t):=by
 intro pos pins s σ H Q I h
 rw[hs]
 show wpAny _ _ (spliced ((false,eval e X.env)::backTo pos (starEach es X.env))) _ _ s
 refine Calls.spliced_cons (thn (ha pins s σ H _ I h) fun u s1 ⟨x,H1,I1,r1,q1⟩=>?_)
 exact thn (hr pos pins s1 σ H1 _ I1 q1) fun us s2 ⟨xs,H2,I2,r2,q2⟩=>⟨x::xs,H2,I2,.cons r1 r2,q2⟩
def tTup(t:TA):TE:=fun σ H Q=>t σ H fun xs H1=>xs.length≤sizeLine∧∀ p,H1 p=none→Q (.ref p) (upd H1 p (.tup xs))
def tLst(t:TA):TE:=fun σ H Q=>t σ H fun xs H1=>xs.length≤sizeLine∧∀ p,H1 p=none→Q (.ref p) (upd H1 p (.lst xs))
theorem pZ{x1}(h:PA X es t):PE X (.Tuple es x1 pos) (tTup t):=by
 intro pins s σ H Q I hq
 refine wpAny_Tuple_spliced (thn (h pos pins s σ H _ I hq) fun us s1 ⟨xs,H1,I1,r,z,q⟩=>⟨by rw[← r.length];exact z,?_⟩)
 have hf:H1 s1.heap.objs.size=none:=I1.hok.fresh (le_refl _)
 refine⟨.ref s1.heap.objs.size,upd H1 s1.heap.objs.size (.tup xs),I1.laid (t':=s1.toks) (fun b u e=>Heap.get?_push_of_some _ e) (le_refl _) ?_,rfl,q _ hf⟩
 exact⟨z,us,r,⟨_,Heap.get?_push_size _ rfl,rfl,_,rfl⟩⟩
theorem aP(h:PA X es t):PE X (.List es pos) (tLst t):=by
 intro pins s σ H Q I hq
 refine wpAny_List_spliced (thn (h pos pins s σ H _ I hq) fun us s1 ⟨xs,H1,I1,r,z,q⟩=>⟨by rw[← r.length];exact z,?_⟩)
 have hf:H1 s1.heap.objs.size=none:=I1.hok.fresh (le_refl _)
 refine⟨.ref s1.heap.objs.size,upd H1 s1.heap.objs.size (.lst xs),I1.laid (t':=s1.toks) (fun b u e=>Heap.get?_push_of_some _ e) (le_refl _) ?_,rfl,q _ hf⟩
 exact⟨z,us,0,r,Heap.get?_push_size _ rfl⟩
end
abbrev Sp:=List V→Hp→VK→XK→Prop
abbrev CXT:=List Env→Hp→Shared→XK→Value→Shared→Prop
structure ze(P:Program)(w:World)(K:Frag)(mg:Str→Option Value)(base:Heap)(A:Around)(outer:List Env)(s:Shared)(H:Hp):Prop where
 frames:A.frames=some outer
 mod:Mod K mg base
 bs:∀ b o,base.get? b=some o→s.heap.get? b=some o∧H b=none
 bsz:base.objs.size≤s.heap.objs.size
 funs:s.heap.FunFrames base outer
 frf:∀ b∈frs outer,H b=none
 hok:HOk P w H s.heap
 bare:AllBare s.gens
def CE(outer:List Env)(P:Program)(w:World)(H:Hp)(s:Shared)(Q:VK)(u:Value)(s':Shared):Prop:=
 ∃ v H',s'.os=s.os∧AllBare s'.gens∧Un (frs outer) [] H H' s.heap s'.heap∧HOk P w H' s'.heap∧RelV v u∧Q v H'
def CR(CX:CXT)(outer:List Env)(P:Program)(w:World)(H:Hp)(s:Shared)(Q:VK)(E:XK)(r:Result)(s':Shared):Prop:=
 match r with
 | .ok (.ret u)=>CE outer P w H s Q u s'
 | .ok _=>False
 | .error e=>CX outer H s E e s'
structure FnOk(P:Program)(w:World)(K:Frag)(mg:Str→Option Value)(base:Heap)(CX:CXT)(k:Nat)(f:Addr)(fd:FuncData)(ps:List Str)(sp:Sp):Prop where
 len:∀ vs H Q E,sp vs H Q E→vs.length=ps.length
 run:∀(A:Around) (outer:List Env) (s:Shared) (H:Hp) (args:Args) (us:List Value) (vs:List V) (Q:VK) (E:XK),Room k A→ze P w K mg base A outer s H→BindsTo s fd args (ps.zip us)→Vals vs us→sp vs H Q E→
  codeAny (model P w) A (.call (.ref f) args) (CR CX outer P w H s Q E) s
theorem FnOk.mono{P:Program}{w:World}{K:Frag}{mg:Str→Option Value}{base:Heap}{CX:CXT}{j k:Nat}{f:Addr}{fd:FuncData}{ps:List Str}{sp:Sp}(F:FnOk P w K mg base CX j f fd ps sp)(h:j≤k):
  FnOk P w K mg base CX k f fd ps sp:=⟨F.len,fun A outer s H args us vs Q E hr=>F.run A outer s H args us vs Q E (hr.mono h)⟩
section
variable{X:Cx}{pins:List (Addr×Obj)}{σ:St}{H:Hp}{s s':Shared}
theorem Inv.env0(I:Inv X pins σ H s):ze X.prog X.w X.K X.mg X.base X.A X.stack s H:=
 ⟨I.ok.frames,I.ok.mod,I.bs,le_trans I.ok.bsz I.sz,I.stack,I.stkFree,I.hok,I.bare⟩
theorem Inv.after{Q:VK}{u:Value}(I:Inv X pins σ H s)(h:CE X.stack X.prog X.w H s Q u s'):EP X pins σ Q u s':=by
 obtain⟨v,H',os,bare,un,hok,r,q⟩:=h
 obtain⟨hh,g,d,t,os'⟩:=s'
 obtain rfl:os'=s.os:=os
 exact⟨v,H',I.call (h':=hh) (g':=g) (d':=d) (t':=t) (ch:=[]) un hok bare (fun b z=>absurd z (by simp)),r,q⟩
end
def zM(sp:Sp)(dvs:List V)(E:XK)(t:TA):TE:=fun σ H Q=>t σ H fun vs H1=>sp (vs++dvs) H1 Q E
def Binds(K:Frag)(fd:FuncData)(ps:List Str)(ds:List Value):Prop:=
 ∀(s:Shared) (us:List Value),K.In s.heap→(us++ds).length=ps.length→BindsTo s fd ⟨us,[]⟩ (ps.zip (us++ds))
theorem Binds.all{K:Frag}{fd:FuncData}{ps:List Str}(h:∀ us:List Value,us.length=ps.length→bindArgs fd ⟨us,[]⟩=pure (ps.zip us)):Binds K fd ps []:=fun s us _ hl=>by
 rw[append_nil]at hl ⊢
 exact .of_eq (h us hl)
def uD(CX:CXT)(X:Cx)(E:XK):Prop:=∀(pins:List (Addr×Obj)) (σ:St) (H:Hp) (s:Shared) (e:Value) (s':Shared),Inv X pins σ H s→CX X.stack H s E e s'→X.xe e s'
section
variable{X:Cx}{CX:CXT}{k:Nat}{f C:Addr}{fd:FuncData}{ps:List Str}{sp:Sp}{dvs:List V}{ds:List Value}{E:XK}{x m:Str}{p pos apos:Pos}{e o:Expr}{es:List Expr}{ta:TE}{t:TA}
theorem zX{pins:List (Addr×Obj)}{σ:St}{H:Hp}{s:Shared}{Q:VK}{us:List Value}{vs:List V}(F:FnOk X.prog X.w X.K X.mg X.base CX k f fd ps sp)(hr:Room k X.A)(hb:Binds X.K fd ps ds)(hd:Vals dvs ds)(hx:uD CX X E)
  (I:Inv X pins σ H s) (r:Vals vs us) (h:sp (vs++dvs) H Q E):wpAny (model X.prog X.w) X.A (call (.ref f) us) (EP X pins σ Q) X.xe s:=by
 have r2:Vals (vs++dvs) (us++ds):=r.append hd
 have hl:(us++ds).length=ps.length:=by rw[← r2.length];exact F.len _ _ _ _ h
 refine wpAny_call (codeAny_mono (F.run X.A X.stack s H ⟨us,[]⟩ (us++ds) (vs++dvs) Q E hr I.env0 (hb s us I.kIn hl) r2 h) fun r s' hq=>?_)
 cases r with
 |error e=>exact hx pins σ H s e s' I hq
 |ok fl=>
  cases fl with
  |ret u=>exact I.after hq
  |next=>exact False.elim hq
  |brk=>exact False.elim hq
  |cont=>exact False.elim hq
theorem zE(F:FnOk X.prog X.w X.K X.mg X.base CX k f fd ps sp)(hr:Room k X.A)(hg:Gl X x)(hm:X.mg x=some (.ref f))(hk:keepIn X.K (.ref f)=true)(hb:Binds X.K fd ps ds)(hd:Vals dvs ds)(hx:uD CX X E)
  (ha:PA X (e::es) t) (hdb:(x==("__debug__":Str))=false:=by decide) (he:starEach (e::es) X.env=(false,eval e X.env)::starEach es X.env:=by rfl) (hpl:(backTo pos (starEach es X.env)).any (·.1)=false:=by rfl):
  PE X (.Call (.Name x p) (e::es) [] pos) (zM sp dvs E t):=by
 intro pins s σ H Q I h
 refine wpAny_Call_Name_kw (uJ I hg hm ?_ hdb)
 refine PySem.W.callWith_K (h₀:=X.base) I.ok.mod.kin hk (thn (ha pos pins s σ H _ I h) fun us s1 ⟨vs,H1,I1,r,q⟩=>⟨I1.kIn,?_⟩) he hpl
 exact zX F hr hb hd hx I1 r q
end
structure ax(N P:List Str)(sc:Scope):Prop where
 kind:sc.kind= .function
 co:sc.isCoroutine=false
 gen:sc.isGenerator=false
 nd:N.Nodup
 pre:N.take P.length=P
 par:∀ x∈P,sc.names.lookup x=some .local∨sc.names.lookup x=some .cell
 nofree:∀ y∈sc.names,y.2≠ .free
theorem oA{kindOf:Str→Option NameKind}{x:Str}:∀{binds:List (Str×Value)} {m:Str→Option Value},(∀ v,(x,v)∉binds)→bindL kindOf binds m x=m x
 |[],_,_=>rfl
 |(n,v)::r,m,h=>by
  unfold bindL
  rw[oA fun w hw=>h w (mem_cons_of_mem _ hw)]
  split
  ·have:x≠n:=by rintro rfl;exact h v mem_cons_self
   simp[this]
  ·rfl
theorem oJ{kindOf:Str→Option NameKind}{x:Str}:∀{binds:List (Str×Value)} {m:Str→Option Value},(∀ v,(x,v)∉binds)→bindC kindOf binds m x=m x
 |[],_,_=>rfl
 |(n,v)::r,m,h=>by
  unfold bindC
  rw[oJ fun w hw=>h w (mem_cons_of_mem _ hw)]
  split
  ·rfl
  ·have:x≠n:=by rintro rfl;exact h v mem_cons_self
   simp[this]
theorem oS{kindOf:Str→Option NameKind}{x:Str}{v:Value}:∀{P:List Str} {vs:List Value} {i:Nat} {m:Str→Option Value},P.Nodup→P[i]?=some x→vs[i]?=some v→kindOf x=some .local→
  bindL kindOf (P.zip vs) m x=some v
 |[],_,_,_,_,h,_,_=>by simp at h
 |_::_,[],_,_,_,_,h,_=>by simp at h
 |p::P,w::vs,0,m,nd,h1,h2,hk=>by
  simp at h1 h2;subst h1;subst h2
  show bindL kindOf ((p,w)::P.zip vs) m p=_
  unfold bindL
  rw[oA fun v hv=>(nodup_cons.mp nd).1 (List.of_mem_zip hv).1,if_pos hk]
  simp
 |p::P,w::vs,i+1,m,nd,h1,h2,hk=>by
  show bindL kindOf ((p,w)::P.zip vs) m x=_
  unfold bindL
  exact oS (i:=i) (nodup_cons.mp nd).2 (by simpa using h1) (by simpa using h2) hk
theorem nT{kindOf:Str→Option NameKind}{x:Str}{v:Value}:∀{P:List Str} {vs:List Value} {i:Nat} {m:Str→Option Value},P.Nodup→P[i]?=some x→vs[i]?=some v→kindOf x≠some .local→
  bindC kindOf (P.zip vs) m x=some v
 |[],_,_,_,_,h,_,_=>by simp at h
 |_::_,[],_,_,_,_,h,_=>by simp at h
 |p::P,w::vs,0,m,nd,h1,h2,hk=>by
  simp at h1 h2;subst h1;subst h2
  show bindC kindOf ((p,w)::P.zip vs) m p=_
  unfold bindC
  rw[oJ fun v hv=>(nodup_cons.mp nd).1 (List.of_mem_zip hv).1,if_neg hk]
  simp
 |p::P,w::vs,i+1,m,nd,h1,h2,hk=>by
  show bindC kindOf ((p,w)::P.zip vs) m x=_
  unfold bindC
  exact nT (i:=i) (nodup_cons.mp nd).2 (by simpa using h1) (by simpa using h2) hk
def start(N:List Str)(vs:List V):St:=vs.map some++List.replicate (N.length - vs.length) none
def vL(CX:CXT)(P:Program)(w:World)(K:Frag)(mg:Str→Option Value)(base:Heap)(N:List Str)(qual:Str)(scope:Scope)(f:Addr)(cd:Value)(A:Around)(outer:List Env)(s:Shared)(H:Hp)(E:XK):Cx where
 prog:=P
 w:=w
 K:=K
 mg:=mg
 base:=base
 A:=A.deeper (envOfC qual scope s.heap.objs.size f cd)
 N:=N
 s_0:=s
 H_0:=H
 env:=envOfC qual scope s.heap.objs.size f cd
 outer:=outer
 stack:=envOfC qual scope s.heap.objs.size f cd::outer
 ex:=[]
 calm:=true
 fn:=fun _=>true
 pn:=[]
 xe:=fun e s'=>wpAny (model P w) (A.deeper (envOfC qual scope s.heap.objs.size f cd)) (leaving (envOfC qual scope s.heap.objs.size f cd) e) (fun _ s''=>CX outer H s E e s'') (fun e' s''=>CX outer H s E e' s'') s'
theorem qG{sc:Scope}{n:Nat}{x:Str}(h:sc.names.lookup x=some .cell):∃ c,(cellsFrom n sc.names []).lookup x=some c:=by
 have q:=PySem.W.cellsFrom_some sc.names n [] (.inl h)
 exact Option.isSome_iff_exists.mp q
theorem vU{CX:CXT}{P:Program}{w:World}{K:Frag}{mg:Str→Option Value}{base:Heap}{N ps:List Str}{qual:Str}{scope:Scope}{f:Addr}{cd:Value}{A:Around}{outer:List Env}{s s1:Shared}{H:Hp}{E:XK}{us:List Value}{vs:List V}
  (S:ax N ps scope) (hd:A.handled=none) (e0:ze P w K mg base A outer s H) (hl:vs.length=ps.length) (r:Vals vs us)
  (x:InCallC s s.heap.objs.size (bindL (envOfC qual scope s.heap.objs.size f cd).kindOf (ps.zip us) fun _=>none) (cellsFrom (s.heap.objs.size+1) scope.names []) (bindC (envOfC qual scope s.heap.objs.size f cd).kindOf (ps.zip us) fun _=>none) s1):
  Inv (vL CX P w K mg base N qual scope f cd A outer s H E) [] (start N vs) H s1:=by
 have hpl:ps.length≤N.length:=by have:=congrArg List.length S.pre;rw[length_take]at this;omega
 obtain⟨h1,tk,rfl,hk⟩:=x.done
 have noA:∀ b:Addr,b∉(vL CX P w K mg base N qual scope f cd A outer s H E).ex:=fun b z=>absurd (show b∈([]:List Addr)from z) (by simp)
 refine⟨⟨e0.mod,S.kind,rfl,rfl,le_refl _,fun y z c h1 h2=>?_,fun y hy=>?_,fun y c _ h=>?_,fun _=>hd,Around.frames_deeper e0.frames,.inr ⟨rfl,rfl⟩,fun b z=>absurd z (noA b),e0.bs,e0.bsz,fun b _ _=>noA b,fun b z=>absurd z (noA b),e0.funs,e0.frf⟩,
  rfl,e0.bare,Un.kept hk,⟨_,x.toInCall.ns,fun i y v h1 h2 h3=>?_⟩,fun y c h=>⟨_,x.cell y c h⟩,e0.hok.fresh (le_refl _),fun y c h=>?_,fun p hp=>absurd (show p∈([]:List (Addr×Obj))from hp) (by simp),e0.hok.kept hk,?_⟩
 ·exact name_of_addr x.apart (PySem.mem_of_lookup h1) (PySem.mem_of_lookup h2)
 ·have hy:scope.names.lookup y=some .cell∨scope.names.lookup y=some .free:=hy
  rcases hy with hy|hy
  ·exact qG hy
  ·exact absurd rfl (S.nofree _ (PySem.mem_of_lookup hy))
 ·exact le_of_lt (x.above y c (PySem.mem_of_lookup h))
 ·have hi:i<vs.length:=by
   unfold start at h2
   by_cases hi:i<vs.length
   ·exact hi
   ·rw[List.getElem?_append_right (by simpa using hi)]at h2
    rw[List.getElem?_replicate]at h2
    split at h2<;>cases h2
  have ha:vs[i]?=some v:=by
   unfold start at h2
   rw[List.getElem?_append_left (by simpa using hi),List.getElem?_map]at h2
   cases e:vs[i]? with
   |none=>rw[e]at h2;cases h2
   |some a=>rw[e]at h2;cases h2;rfl
  obtain⟨u,hu,rv⟩:=r.get ha
  have hp:ps[i]?=some y:=by
   rw[← S.pre,List.getElem?_take_of_lt (by omega)];exact h1
  have ndP:ps.Nodup:=by rw[← S.pre];exact S.nd.sublist (List.take_sublist _ _)
  refine⟨u,rv,?_⟩
  rcases S.par y (mem_of_getElem? hp)with k|k
  ·exact .inl ⟨k,oS ndP hp hu k⟩
  ·obtain⟨c,e⟩:=qG (n:=s.heap.objs.size+1) k
   refine .inr ⟨.inl k,c,e,?_⟩
   have q:=x.cell y c e
   rw[nT ndP hp hu (by show scope.names.lookup y≠_;rw[k];decide)]at q
   exact q
 ·exact e0.hok.fresh (le_of_lt (x.above y c (PySem.mem_of_lookup h)))
 ·unfold start
  show _=N.length
  rw[length_append,length_map,List.length_replicate]
  omega
theorem fn_of{CX:CXT}{P:Program}{w:World}{K:Frag}{mg:Str→Option Value}{base:Heap}{k:Nat}{f:Addr}{name qual:Str}{params:Arguments}{body:List Stmt}{scope:Scope}{dV kV doc pm cdv ct oc:Value}{an od:Option Addr}
  {osl:Array (Option Value)} {N ps:List Str} {sp:Sp} (lk:K.lookup f=some ⟨oc,od,.func (fnOf name qual params body scope dV kV doc pm an cdv ct),osl⟩) (hcd:codeIn K cdv qual=true) (S:ax N ps scope)
  (len:∀ vs H Q E,sp vs H Q E→vs.length=ps.length)
  (hbody:∀(A:Around) (outer:List Env) (s:Shared) (H:Hp) (vs:List V) (Q:VK) (E:XK),Room k (A.deeper (envOfC qual scope s.heap.objs.size f cdv))→sp vs H Q E→
   ∃ t,PSs (vL CX P w K mg base N qual scope f cdv A outer s H E) body t∧t {nx:=fun _ H'=>Q .non H',rt:=Q } (start N vs) H):
  FnOk P w K mg base CX (k+1) f (fnOf name qual params body scope dV kV doc pm an cdv ct) ps sp:=by
 refine⟨len,fun A outer s H args us vs Q E hr e0 hb r hsp=>?_⟩
 have hl:=len _ _ _ _ hsp
 have KX:K.In s.heap:=e0.mod.kin.keeps fun b o e=>(e0.bs b o e).1
 have lim:s.heap.NoLimit:=e0.mod.nolimit.keeps fun b o e=>(e0.bs b o e).1
 have hkind:∀ y∈ps.zip us,scope.names.lookup y.1=some .local∨(scope.names.lookup y.1=some .cell∧((cellsFrom (s.heap.objs.size+1) scope.names []).lookup y.1).isSome=true):=fun⟨n,v⟩ hy=>by
  rcases S.par n (List.of_mem_zip hy).1 with q|q
  ·exact .inl q
  ·exact .inr ⟨q,PySem.W.cellsFrom_some _ _ _ (.inl q)⟩
 refine codeAny_call_function hr.depth (KX _ _ lk) rfl S.co S.gen rfl (PySem.W.codeRec_of KX hcd) (hb _ _ _ _ ?_)
 refine wpAny_newFunctionEnv_cells S.kind hkind fun env he s1 x=>?_
 subst he
 refine⟨lim.keeps x.toInCall.keep,codeAny_func ?_⟩
 obtain⟨t,ht,hq⟩:=hbody A outer s H vs Q E (hr.deeper _) hsp
 have I:Inv (vL CX P w K mg base N qual scope f cdv A outer s H E) [] (start N vs) H s1:=vU S hr.hd e0 hl r x
 refine wpAny_mono (ht [] s1 (start N vs) H _ I hq) (fun fl s' hs=>?_) fun e s' hs=>hs
 have fin:∀{σ':St} {H':Hp} {v:V} {u:Value},Inv (vL CX P w K mg base N qual scope f cdv A outer s H E) [] σ' H' s'→RelV v u→Q v H'→CE outer P w H s Q u s':=
  fun {σ' H' v u} J rv q=>⟨v,H',J.os,J.bare,J.base,J.hok,rv,q⟩
 cases fl with
 |ret u=>
  obtain⟨v,σ',H',J,rv,q⟩:=hs
  exact fin J rv q
 |next=>
  obtain⟨σ',H',J,q⟩:=hs
  exact fin (v:=V.non) (u:=Value.none) J rfl q
 |brk=>
  obtain⟨_,_,_,q⟩:=hs
  exact False.elim q
 |cont=>
  obtain⟨_,_,_,q⟩:=hs
  exact False.elim q
section
variable{X:Cx}{x:Str}{p pos:Pos}{e:Expr}{es:List Expr}{t:TA}{id T:String}{r:List V→Hp→VK→Prop}
def tCB(r:List V→Hp→VK→Prop)(t:TA):TE:=fun σ H Q=>t σ H fun vs H1=>r vs H1 Q
theorem bx(hc:dr X (.builtin id) r)(hg:Gl X x)(hm:X.mg x=none)(hv:bootBuiltins x=some (.builtin id))(ha:PA X (e::es) t)(hn:x≠"__name__":=by decide)(hdb:(x==("__debug__":Str))=false:=by decide)
  (he:starEach (e::es) X.env=(false,eval e X.env)::starEach es X.env:=by rfl) (hpl:(backTo pos (starEach es X.env)).any (·.1)=false:=by rfl):PE X (.Call (.Name x p) (e::es) [] pos) (tCB r t):=by
 intro pins s σ H Q I h
 refine wpAny_Call_Name_kw (ly I hg hm hv ?_ hn hdb)
 exact PyProof.Rows.callWith_builtin1 (thn (ha pos pins s σ H _ I h) fun us s1 ⟨vs,H1,I1,r1,q1⟩=>hc pins s1 σ H1 vs us Q I1 r1 q1) he hpl
theorem aV(hc:dr X (.type T) r)(hg:Gl X x)(hm:X.mg x=none)(hv:bootBuiltins x=some (.type T))(ha:PA X (e::es) t)(hn:x≠"__name__":=by decide)(hdb:(x==("__debug__":Str))=false:=by decide)
  (he:starEach (e::es) X.env=(false,eval e X.env)::starEach es X.env:=by rfl) (hpl:(backTo pos (starEach es X.env)).any (·.1)=false:=by rfl):PE X (.Call (.Name x p) (e::es) [] pos) (tCB r t):=by
 intro pins s σ H Q I h
 refine wpAny_Call_Name_kw (ly I hg hm hv ?_ hn hdb)
 exact PyProof.Rows.callWith_type1 (thn (ha pos pins s σ H _ I h) fun us s1 ⟨vs,H1,I1,r1,q1⟩=>hc pins s1 σ H1 vs us Q I1 r1 q1) he hpl
end
end L2
namespace HT
open PySem PyProof.Rows
section
variable{prog:Program}{w:World}{A:Around}{E:Value→Shared→Prop}{s:Shared}
def sIx(n d:Nat):Option Int→Nat
 |none=>d
 |some v=>if v<0 then(v+(n:Int)).toNat else min v.toNat n
theorem sIx_none(n d:Nat):sIx n d none=d:=rfl
theorem sIx_nat(n d k:Nat):sIx n d (some (k:Int))=min k n:=by
 show(if(k:Int)<0 then((k:Int)+(n:Int)).toNat else min (k:Int).toNat n)=min k n
 rw[if_neg (by omega),Int.toNat_natCast]
end
end HT
namespace L2
open PySem PySem.Spec PyProof.Rows
abbrev TO:=St→Hp→(Option Int→Hp→Prop)→Prop
def PO(X:Cx)(e:Option Expr)(t:TO):Prop:=
 ∀(pins:List (Addr×Obj)) (s:Shared) (σ:St) (H:Hp) (Q:Option Int→Hp→Prop),Inv X pins σ H s→t σ H Q→
  wpAny (model X.prog X.w) X.A (evalPart e X.env) (fun u s'=>∃ o H',Inv X pins σ H' s'∧IsPart u o∧Q o H') X.xe s
def yU:TO:=fun _ H Q=>Q none H
def tPart(t:TE):TO:=fun σ H Q=>t σ H fun x H1=>∃ i,x= .int i∧Q (some i) H1
theorem mq{ns:List Int}:∀{us:List Value},Vals (ns.map V.int) us→IntsAre us ns:=by
 induction ns with
 |nil=>intro us r;rw[map_nil]at r;cases r;exact .nil
 |cons n ns ih=>
  intro us r
  rw[map_cons]at r
  cases r with
  |cons r1 r2=>
   obtain⟨t,e⟩:=r1
   subst e
   exact .cons n t (ih r2)
section
variable{X:Cx}{e:Expr}{te:TE}{lo hi:Option Expr}{tl th:TO}{pos p2:Pos}
theorem vm:PO X none yU:=by
 intro pins s σ H Q I h
 rw[evalPart_none]
 exact wpAny_pure ⟨none,H,I,.none,h⟩
theorem kD(h:PE X e te):PO X (some e) (tPart te):=by
 intro pins s σ H Q I hw
 rw[evalPart_some]
 refine thn (h pins s σ H _ I hw) fun u s1 ⟨x,H1,I1,r1,q1⟩=>?_
 obtain⟨i,rfl,q⟩:=q1
 obtain⟨t,rfl⟩:=r1
 exact⟨some i,H1,I1,.int i t,q⟩
def SlR(X:Cx)(r:V→Option Int→Option Int→Hp→VK→Prop):Prop:=
 ∀(pins:List (Addr×Obj)) (s:Shared) (σ:St) (H:Hp) (x:V) (v vl vu:Value) (lo hi:Option Int) (sl:Addr) (Q:VK),Inv X pins σ H s→RelV x v→s.heap.IsSliceOf sl vl vu .none→IsPart vl lo→IsPart vu hi→r x lo hi H Q→
  ∃ T id,typeLookup (.type T) "__getitem__"=pure (some (.builtin id))∧s.TypeIs v T∧wpAny (model X.prog X.w) X.A (getItem v (.ref sl)) (EP X pins σ Q) X.xe s
def tSl(r:V→Option Int→Option Int→Hp→VK→Prop)(te:TE)(tl th:TO):TE:=fun σ H Q=>te σ H fun x H1=>tl σ H1 fun l H2=>th σ H2 fun u H3=>r x l u H3 Q
theorem kY{r:V→Option Int→Option Int→Hp→VK→Prop}(hr:SlR X r)(he:PE X e te)(hl:PO X lo tl)(hu:PO X hi th):PE X (.Subscript e (.Slice lo hi none p2) pos) (tSl r te tl th):=by
 intro pins s σ H Q I h
 refine Subscript_ (thn (he pins s σ H _ I h) fun v s1 ⟨x,H1,I1,r1,q1⟩=>?_)
 refine wpAny_Slice (thn (hl pins s1 σ H1 _ I1 q1) fun vl s2 ⟨l,H2,I2,pl,q2⟩=>thn (hu pins s2 σ H2 _ I2 q2) fun vu s3 ⟨u,H3,I3,pu,q3⟩=>?_)
 rw[evalPart_none]
 refine wpAny_pure ?_
 have I4:Inv X pins σ H3 {s3 with heap:=s3.heap.push {cls:= .type "slice",data:= .fields #[vl,vu,.none] } }:=I3.kept (t':=s3.toks) fun b ob q=>Heap.get?_push_of_some _ q
 obtain⟨T,id,hT,ht,hg⟩:=hr pins {s3 with heap:=s3.heap.push {cls:= .type "slice",data:= .fields #[vl,vu,.none] } } σ H3 x v vl vu l u s3.heap.objs.size Q I4 r1 (Heap.IsSliceOf.new ..) pl pu q3
 show wpAny (model X.prog X.w) X.A (subscriptTail e (.Slice lo hi none p2) v (.ref s3.heap.objs.size)) (EP X pins σ Q) X.xe {s3 with heap:=s3.heap.push {cls:= .type "slice",data:= .fields #[vl,vu,.none] } }
 exact tail_any (ops:=[.ref s3.heap.objs.size,v]) ht hT hg (by with_unfolding_all rfl)
def oX(xs:List V)(lo hi:Option Int):List V:=(xs.drop (HT.sIx xs.length 0 lo)).take (HT.sIx xs.length xs.length hi - HT.sIx xs.length 0 lo)
theorem sO(xs:List V)(lo hi:Option Int):(oX xs lo hi).length≤xs.length:=by
 unfold oX
 rw[length_take,List.length_drop]
 omega
end
def ixN(n:Nat)(i:Int):Option Nat:=if 0≤i then(if i<n then some i.toNat else none)else if -(n:Int)≤i then some (i+n).toNat else none
def atI{α:Type}(xs:List α)(i:Int):Option α:=(ixN xs.length i).bind fun j=>xs[j]?
theorem vz{n:Nat}{i:Int}{j:Nat}(h:ixN n i=some j):seqIndex? i n=some j∧j<n∧ -(n:Int)≤i∧i<n:=by
 unfold ixN at h
 by_cases h0:0≤i
 ·rw[if_pos h0]at h
  by_cases h1:i<n
  ·rw[if_pos h1]at h
   have e:i.toNat=j:=Option.some.inj h
   exact⟨by rw[seqIndex_of h0 h1,e],by omega,by omega,h1⟩
  ·rw[if_neg h1]at h;cases h
 ·rw[if_neg h0]at h
  by_cases h1: -(n:Int)≤i
  ·rw[if_pos h1]at h
   have e:(i+n).toNat=j:=Option.some.inj h
   exact⟨by rw[seqIndex_neg (by omega) h1,e],by omega,h1,by omega⟩
  ·rw[if_neg h1]at h;cases h
theorem vt{α:Type}{xs:List α}{i:Int}{v:α}(h:atI xs i=some v):∃ j,seqIndex? i xs.length=some j∧xs[j]?=some v∧j<xs.length∧ -(xs.length:Int)≤i∧i<xs.length:=by
 unfold atI at h
 cases e:ixN xs.length i with
 |none=>rw[e]at h;cases h
 |some j=>
  rw[e]at h
  obtain⟨h1,h2,h3,h4⟩:=vz e
  exact⟨j,h1,h,h2,h3,h4⟩
theorem cn{α:Type}{xs:List α}{j:Nat}{v:α}(h:xs[j]?=some v):atI xs (j:Int)=some v:=by
 have hj:j<xs.length:=(List.getElem?_eq_some_iff.mp h).1
 have e:ixN xs.length (j:Int)=some j:=by
  unfold ixN
  rw[if_pos (by omega),if_pos (by omega)];simp
 unfold atI;rw[e];exact h
theorem xf{α:Type}(xs:List α)(v:α):atI (xs++[v]) (-1)=some v:=by
 have hl:(xs++[v]).length=xs.length+1:=by simp
 have e:ixN (xs++[v]).length (-1)=some xs.length:=by
  unfold ixN
  rw[hl,if_neg (by decide),if_pos (by omega)]
  congr 1
  omega
 unfold atI
 rw[e]
 show(xs++[v])[xs.length]?=some v
 simp
def o4(b:Expr):Prop:=∀ o i,subscripted b false o i=operate [o,i] (getItem o i)
def IxR(X:Cx)(r:R2):Prop:=
 ∀(value slice:Expr) (pins:List (Addr×Obj)) (s:Shared) (σ:St) (H:Hp) (x y:V) (v u:Value) (Q:VK),Inv X pins σ H s→RelV x v→RelV y u→r x y H Q→
  subscripted slice false v u=operate [v,u] (getItem v u)→wpAny (model X.prog X.w) X.A (subscriptTail value slice v u) (EP X pins σ Q) X.xe s
def MtR(X:Cx)(id:String)(r:V→List V→Hp→VK→Prop):Prop:=
 ∀(pins:List (Addr×Obj)) (s:Shared) (σ:St) (H:Hp) (x:V) (xs:List V) (v:Value) (us:List Value) (Q:VK),Inv X pins σ H s→RelV x v→Vals xs us→r x xs H Q→
  wpAny (model X.prog X.w) X.A (call (.builtin id) (v::us)) (EP X pins σ Q) X.xe s
section
variable{X:Cx}{a b:Expr}{ta tb:TE}{pos:Pos}
theorem qA{r:R2}(hr:IxR X r)(ha:PE X a ta)(hb:PE X b tb)(hs:o4 b):PE X (.Subscript a b pos) (tOp r ta tb):=by
 intro pins s σ H Q I h
 exact Subscript_ (Ao ha hb I h fun v u s2 x y H2 I2 rx ry q=>hr a b pins s2 σ H2 x y v u Q I2 rx ry q (hs _ _))
def rIxL(K:Frag):R2:=fun x y H Q=>∃ p xs i v,x= .ref p∧y= .int i∧SqL K H p xs∧atI xs i=some v∧Q v H
def rIxT(K:Frag):R2:=fun x y H Q=>∃ p xs i v,x= .ref p∧y= .int i∧SqT K H p xs∧atI xs i=some v∧Q v H
theorem kI:IxR X (rIxL X.K):=by
 intro value slice pins s σ H x y v u Q I rx ry h hs
 obtain⟨p,xs,i,z,rfl,rfl,hq,he,q⟩:=h
 cases rx
 obtain⟨t,rfl⟩:=ry
 obtain⟨its,r,pl,hz⟩:=I.list hq
 obtain⟨j,h1,h2,h3,h4,h5⟩:=vt he
 obtain⟨w,ew,rw'⟩:=r.get h2
 have hl:=r.length
 have hn:=pA
 have fin:EP X pins σ Q w s:=⟨z,H,I,rw',q⟩
 by_cases h0:0≤i
 ·have hj:i.toNat=j:=by
   rw[seqIndex_of h0 h5]at h1
   exact Option.some.inj h1
  exact item_listR pl.isList h0 (by omega) (by rw[hj];simpa using ew) fin hs
 ·have hj:(i+(its.toArray.size:Int)).toNat=j:=by
   rw[seqIndex_neg (by omega) h4]at h1
   rw[size_toArray,← hl]
   exact Option.some.inj h1
  exact subscriptTail_builtinR (x:=w) pl.isList.typeIs slot_list_getitem.lookup
   (wpAny_getItem_list_neg (Q:=fun r s'=>r=w∧EP X pins σ Q r s') pl.isList (by omega) (by rw[size_toArray]<;>omega) (by omega) (by rw[hj];simpa using ew) ⟨rfl,fin⟩) hs
theorem AN:IxR X (rIxT X.K):=by
 intro value slice pins s σ H x y v u Q I rx ry h hs
 obtain⟨p,xs,i,z,rfl,rfl,hq,he,q⟩:=h
 cases rx
 obtain⟨t,rfl⟩:=ry
 obtain⟨its,r,pl,hz⟩:=I.tuple hq
 obtain⟨j,h1,h2,h3,h4,h5⟩:=vt he
 obtain⟨w,ew,rw'⟩:=r.get h2
 have hl:=r.length
 have hn:=pA
 have fin:EP X pins σ Q w s:=⟨z,H,I,rw',q⟩
 exact subscriptTail_builtinR (x:=w) pl.typeIs slot_tuple_getitem.lookup
  (getItem_tuple (j:=j) (Q:=fun r s'=>r=w∧EP X pins σ Q r s') pl (by omega) (by omega) (by rw[size_toArray,← hl];exact h1) (by simpa using ew) ⟨rfl,fin⟩) hs
theorem uu(its:List Value)(n j:Nat)(u:Value):Obj.mapSeq (·.setIfInBounds j u) {cls:= .type "list",data:= .seq its.toArray n }={cls:= .type "list",data:= .seq (its.set j u).toArray n }:=by
 simp[Obj.mapSeq]
theorem Inv.lst{pins:List (Addr×Obj)}{σ:St}{H:Hp}{s:Shared}{p:Addr}{xs:List V}(I:Inv X pins σ H s)(h:H p=some (.lst xs)):
  ∃(its:List Value) (n:Nat),Vals xs its∧s.heap.get? p=some {cls:= .type "list",data:= .seq its.toArray n }∧xs.length≤sizeLine:=by
 obtain⟨z,its,n,r,e⟩:=I.hok p _ h
 exact⟨its,n,r,e,z⟩
theorem Inv.lstUpd{pins:List (Addr×Obj)}{σ:St}{H:Hp}{s:Shared}{p:Addr}{xs ys:List V}{its its':List Value}{n n':Nat}{f:Obj→Obj}(I:Inv X pins σ H s)(h:H p=some (.lst xs))
  (ho:s.heap.get? p=some {cls:= .type "list",data:= .seq its.toArray n }) (hf:f {cls:= .type "list",data:= .seq its.toArray n }={cls:= .type "list",data:= .seq its'.toArray n' }) (r:Vals ys its') (hz:ys.length≤sizeLine) (t:Nat):
  Inv X pins σ (upd H p (.lst ys)) {s with heap:=s.heap.update p f,toks:=t }:=by
 have e:(s.heap.update p f).get? p=some {cls:= .type "list",data:= .seq its'.toArray n' }:=by
  rw[Heap.get?_update_self f ho (by rw[hf]<;>rfl),hf]
 refine I.write (x:=p) (e:=p) (by rw[h];trivial) (.inl rfl) (fun b u hb q=>(Heap.get?_update_other _ _ (Ne.symm hb)).trans q) ⟨_,e⟩ ?_
 exact⟨hz,its',n',r,e⟩
def rSetL:V→V→V→Hp→(Hp→Prop)→Prop:=fun o i v H Q=>∃ p xs k j,o= .ref p∧i= .int k∧H p=some (.lst xs)∧ixN xs.length k=some j∧Q (upd H p (.lst (xs.set j v)))
theorem cE:PSet X rSetL:=by
 intro pins s σ H o i v ov iv u Q I ro ri rv h
 obtain⟨p,xs,k,j,rfl,rfl,hp,hj,q⟩:=h
 cases ro
 obtain⟨t,rfl⟩:=ri
 obtain⟨its,n,r,ho,hz⟩:=I.lst hp
 obtain⟨h1,h2,h3,h4⟩:=vz hj
 have hl:=r.length
 have hn:=pA
 have I':Inv X pins σ (upd H p (.lst (xs.set j v))) {s with heap:=s.heap.update p (Obj.mapSeq (·.setIfInBounds j u)) }:=
  I.lstUpd hp ho (uu its n j u) (r.set rv j) (by rw[length_set];exact hz) s.toks
 by_cases h0:0≤k
 ·have hk:k.toNat=j:=by
   rw[seqIndex_of h0 h4]at h1
   exact Option.some.inj h1
  exact PySem.W.ki_setAt ho h0 (by omega) (by rw[size_toArray,← hl];exact h4) (by rw[hk];exact⟨_,I',q⟩)
 ·have hk:(k+(its.toArray.size:Int)).toNat=j:=by
   rw[seqIndex_neg (by omega) h3]at h1
   rw[size_toArray,← hl]
   exact Option.some.inj h1
  exact PySem.W.ki_setBack ho (by omega) (by rw[size_toArray,← hl];exact h3) (by omega) (by rw[hk];exact⟨_,I',q⟩)
theorem oV(lo hi:Option Int)(n:Nat):(sliceBounds lo hi none n).1=((HT.sIx n 0 lo:Nat):Int)∧(sliceBounds lo hi none n).2.1=((HT.sIx n n hi:Nat):Int)∧(sliceBounds lo hi none n).2.2=1:=by
 refine⟨?_,?_,rfl⟩
 ·cases lo with
  |none=>simp[sliceBounds,HT.sIx]
  |some i=>
   simp only[sliceBounds,HT.sIx,Option.getD_none,show(1:Int)>0 by decide,if_true]
   by_cases h:i<0
   ·simp only[h,if_true]<;>omega
   ·simp only[h,if_false]<;>omega
 ·cases hi with
  |none=>simp[sliceBounds,HT.sIx]
  |some i=>
   simp only[sliceBounds,HT.sIx,Option.getD_none,show(1:Int)>0 by decide,if_true]
   by_cases h:i<0
   ·simp only[h,if_true]<;>omega
   ·simp only[h,if_false]<;>omega
theorem ni(its:List Value)(lo hi:Option Int):slicePick its.toArray lo hi none=((its.drop (HT.sIx its.length 0 lo)).take (HT.sIx its.length its.length hi - HT.sIx its.length 0 lo)).toArray:=by
 obtain⟨h1,h2,h3⟩:=oV lo hi its.toArray.size
 unfold slicePick
 rw[h1,h2,h3]
 simp only[sliceRange_one,pick_run,size_toArray]<;>rfl
def rSlL(K:Frag):V→Option Int→Option Int→Hp→VK→Prop:=fun x lo hi H Q=>∃ a xs,x= .ref a∧SqL K H a xs∧∀ p,H p=none→Q (.ref p) (upd H p (.lst (oX xs lo hi)))
theorem oY:SlR X (rSlL X.K):=by
 intro pins s σ H x v vl vu lo hi sl Q I rx hs pl pu h
 obtain⟨a,xs,rfl,hx,q⟩:=h
 cases rx
 obtain⟨its,r,ht,hz⟩:=I.list hx
 have hlen:=r.length
 refine⟨"list",_,slot_list_getitem.lookup,ht.isList.typeIs,?_⟩
 refine wpAny_getItem_list_slice ht.isList hs pl pu .none (by simp) ?_ (by rw[size_toArray]<;>omega)
 rw[ni,← hlen]
 refine⟨.ref s.heap.objs.size,_,I.laid (t':=s.toks) (o:= .lst (oX xs lo hi)) (fun b ob q=>Heap.get?_push_of_some _ q) (le_refl _) ?_,rfl,q _ (I.hok.fresh (le_refl _))⟩
 exact⟨le_trans (sO xs lo hi) hz,_,0,(r.drop (HT.sIx xs.length 0 lo)).take (HT.sIx xs.length xs.length hi - HT.sIx xs.length 0 lo),Heap.get?_push_size _ rfl⟩
def iS:V→Bool
 | .non=>true
 | .bl _=>true
 | .int _=>true
 | .str _=>true
 |_=>false
def eqV:V→V→Bool
 | .non,.non=>true
 | .bl a,.bl b=>a==b
 | .bl a,.int b=>(if a then 1 else 0)==b
 | .int a,.bl b=>a==(if b then 1 else 0)
 | .int a,.int b=>a==b
 | .str a,.str b=>a==b
 |_,_=>false
theorem AQ{A:Around}{s:Shared}{y x:V}{u v:Value}(ry:RelV y u)(rx:RelV x v)(fy:iS y=true)(fx:iS x=true):SeqAt.EqAt A s u v (eqV y x):=by
 cases y with
 |non=>
  cases ry
  cases x with
  |non=>cases rx;exact SeqAt.EqAt.same _
  |bl b=>cases rx;exact SeqAt.EqAt.none_bool b
  |int b=>obtain⟨t,rfl⟩:=rx;exact SeqAt.EqAt.none_int b t
  |str b=>obtain⟨t,rfl⟩:=rx;exact SeqAt.EqAt.none_str b t
  |_=>exact absurd (show false=true from fx) Bool.false_ne_true
 |bl a=>
  cases ry
  cases x with
  |non=>cases rx;exact SeqAt.EqAt.bool_none a
  |bl b=>cases rx;exact SeqAt.EqAt.bool_bool a b
  |int b=>obtain⟨t,rfl⟩:=rx;exact SeqAt.EqAt.bool_int a b t
  |str b=>obtain⟨t,rfl⟩:=rx;exact SeqAt.EqAt.bool_str a b t
  |_=>exact absurd (show false=true from fx) Bool.false_ne_true
 |int a=>
  obtain⟨t',rfl⟩:=ry
  cases x with
  |non=>cases rx;exact SeqAt.EqAt.int_none a t'
  |bl b=>cases rx;exact SeqAt.EqAt.int_bool a t' b
  |int b=>obtain⟨t,rfl⟩:=rx;exact SeqAt.EqAt.int_int a t' b t
  |str b=>obtain⟨t,rfl⟩:=rx;exact SeqAt.EqAt.int_str a t' b t
  |_=>exact absurd (show false=true from fx) Bool.false_ne_true
 |str a=>
  obtain⟨t',rfl⟩:=ry
  cases x with
  |non=>cases rx;exact SeqAt.EqAt.str_none a t'
  |bl b=>cases rx;exact SeqAt.EqAt.str_bool a t' b
  |int b=>obtain⟨t,rfl⟩:=rx;exact SeqAt.EqAt.str_int a t' b t
  |str b=>obtain⟨t,rfl⟩:=rx;exact SeqAt.EqAt.str_str a t' b t
  |_=>exact absurd (show false=true from fx) Bool.false_ne_true
 |_=>exact absurd (show false=true from fy) Bool.false_ne_true
def eqU(x:V)(u:Value):Bool:=match u with
 | .none=>eqV .non x
 | .bool b=>eqV (.bl b) x
 | .int i _=>eqV (.int i) x
 | .str z _=>eqV (.str z) x
 |_=>false
theorem yj{x y:V}{u:Value}(r:RelV y u)(f:iS y=true):eqU x u=eqV y x:=by
 cases y with
 |non=>cases r;rfl
 |bl b=>cases r;rfl
 |int i=>obtain⟨t,rfl⟩:=r;rfl
 |str z=>obtain⟨t,rfl⟩:=r;rfl
 |_=>exact absurd (show false=true from f) Bool.false_ne_true
theorem iK{x:V}:∀{xs:List V} {us:List Value},Vals xs us→xs.all iS=true→us.any (eqU x)=xs.any fun y=>eqV y x
 |_,_,.nil,_=>rfl
 |y::xs,u::us,.cons r t,f=>by
  rw[all_cons,Bool.and_eq_true]at f
  rw[any_cons,any_cons,yj r f.1,iK t f.2]
theorem fY{A:Around}{s:Shared}{x:V}{v:Value}(rx:RelV x v)(fx:iS x=true):∀{xs:List V} {us:List Value},Vals xs us→xs.all iS=true→∀ u∈us,SeqAt.EqAt A s u v (eqU x u)
 |_,_,.nil,_=>fun u hu=>by cases hu
 |y::xs,u::us,.cons r t,f=>fun u' hu=>by
  rw[all_cons,Bool.and_eq_true]at f
  rcases mem_cons.mp hu with rfl|hu
  ·rw[yj r f.1];exact AQ r rx f.1 fx
  ·exact fY rx fx t f.2 u' hu
def inV(x:V)(xs:List V):Bool:=xs.any fun y=>eqV y x
def rIn(K:Frag)(neg:Bool):R2:=fun x y H Q=>∃ p xs,y= .ref p∧(SqL K H p xs∨SqT K H p xs)∧iS x=true∧xs.all iS=true∧Q (.bl (if neg then !inV x xs else inV x xs)) H
theorem vQ:OpR X (compareOp .In) (rIn X.K false):=by
 intro pins s σ H x y v u Q I rx ry h
 obtain⟨p,xs,rfl,hq,fx,fs,q⟩:=h
 cases ry
 rcases hq with hq|hq
 ·obtain⟨its,r,pl,hz⟩:=I.list hq
  refine SeqAt.in_listAt (eqU x) pl.isList (fun w hw=>fY rx fx r fs w (by simpa using hw)) ⟨.bl _,H,I,rfl,?_⟩
  rw[show its.toArray.any (eqU x)=its.any (eqU x) by simp,iK r fs]
  exact q
 ·obtain⟨its,r,pl,hz⟩:=I.tuple hq
  refine SeqAt.in_tupleAt (eqU x) pl (fun w hw=>fY rx fx r fs w (by simpa using hw)) ⟨.bl _,H,I,rfl,?_⟩
  rw[show its.toArray.any (eqU x)=its.any (eqU x) by simp,iK r fs]
  exact q
theorem iR:OpR X (compareOp .NotIn) (rIn X.K true):=by
 intro pins s σ H x y v u Q I rx ry h
 obtain⟨p,xs,rfl,hq,fx,fs,q⟩:=h
 cases ry
 rcases hq with hq|hq
 ·obtain⟨its,r,pl,hz⟩:=I.list hq
  refine SeqAt.notIn_listAt (eqU x) pl.isList (fun w hw=>fY rx fx r fs w (by simpa using hw)) ⟨.bl _,H,I,rfl,?_⟩
  rw[show its.toArray.any (eqU x)=its.any (eqU x) by simp,iK r fs]
  exact q
 ·obtain⟨its,r,pl,hz⟩:=I.tuple hq
  refine SeqAt.notIn_tupleAt (eqU x) pl (fun w hw=>fY rx fx r fs w (by simpa using hw)) ⟨.bl _,H,I,rfl,?_⟩
  rw[show its.toArray.any (eqU x)=its.any (eqU x) by simp,iK r fs]
  exact q
theorem eS:dr X (.builtin "len") (fun xs H Q=>∃ p ys,xs=[.ref p]∧(SqL X.K H p ys∨SqT X.K H p ys)∧Q (.int ys.length) H):=by
 intro pins s σ H xs us Q I r h
 obtain⟨p,ys,rfl,hq,q⟩:=h
 obtain⟨u,rfl,rx⟩:=jI r
 cases rx
 have hn:=pA
 rcases hq with hq|hq
 ·obtain⟨its,r',pl,hz⟩:=I.list hq
  have hlen:=r'.length
  exact Calls.call_len_list pl.isList (by simp only[size_toArray]<;>omega) ⟨.int ys.length,H,I.tok _,⟨s.toks+1,by rw[size_toArray,hlen]⟩,q⟩
 ·obtain⟨its,r',pl,hz⟩:=I.tuple hq
  have hlen:=r'.length
  exact len_tuple pl (by simp only[size_toArray]<;>omega) ⟨.int ys.length,H,I.tok _,⟨s.toks+1,by rw[size_toArray,hlen]⟩,q⟩
theorem dC:dr X (.type "tuple") (fun xs H Q=>∃ p ys,xs=[.ref p]∧((SqL X.K H p ys∧∀ l,H l=none→Q (.ref l) (upd H l (.tup ys)))∨(SqT X.K H p ys∧Q (.ref p) H))):=by
 intro pins s σ H xs us Q I r h
 obtain⟨p,ys,rfl,h⟩:=h
 obtain⟨u,rfl,rx⟩:=jI r
 cases rx
 rcases h with⟨hq,q⟩|⟨hq,q⟩
 ·obtain⟨its,r',pl,hz⟩:=I.list hq
  have hlen:=r'.length
  refine call_tuple_list pl.isList (fun h' kp=>?_) (by simp only[size_toArray]<;>omega)
  have I1:Inv X pins σ H {s with heap:=h' }:=I.kept (t':=s.toks) kp
  have I2:Inv X pins σ (upd H h'.objs.size (.tup ys)) {s with heap:=h'.push {cls:= .type "tuple",data:= .seq its.toArray } }:=
   I1.laid (t':=s.toks) (fun b o e=>Heap.get?_push_of_some _ e) (le_refl _) (show ObjOk X.prog X.w _ _ _ (.tup ys)from⟨hz,its,r',IsTup.new _ _⟩)
  exact⟨.ref h'.objs.size,_,I2,rfl,q _ (I1.hok.fresh (le_refl _))⟩
 ·obtain⟨its,r',pl,hz⟩:=I.tuple hq
  exact call_tuple_same pl ⟨.ref p,H,I,rfl,q⟩
def tyV(K:Frag)(T:String)(x:V)(H:Hp):Prop:=match x with
 | .str _=>T="str"
 | .int _=>T="int"
 | .ref p=>(T="list"∧∃ xs,SqL K H p xs)∨(T="tuple"∧∃ o,K.lookup p=some o∧o.cls= .type "tuple"∧o.dict=none)∨
   (T="dict"∧((∃ kvs,H p=some (.dK kvs))∨∃ kvs,H p=some (.dT kvs)))∨(T="set"∧∃ S n,H p=some (.set S n))
 |_=>False
theorem xR{pins:List (Addr×Obj)}{σ:St}{H:Hp}{s:Shared}{T:String}{x:V}{v:Value}(I:Inv X pins σ H s)(r:RelV x v)(ty:tyV X.K T x H):
  s.TypeIs v T∧∀ a,v= .ref a→∃ ob,s.heap.get? a=some ob∧ob.dict=none:=by
 cases x with
 |str z=>
  obtain⟨t,rfl⟩:=r
  cases (show T="str" from ty)
  exact⟨typeIs_str s z t,fun _ e=>nomatch e⟩
 |int i=>
  obtain⟨t,rfl⟩:=r
  cases (show T="int" from ty)
  exact⟨typeIs_int s i t,fun _ e=>nomatch e⟩
 |ref p=>
  cases r
  rcases ty with⟨rfl,xs,hq⟩|⟨rfl,o,hk,hc,hd⟩|⟨rfl,hk⟩|⟨rfl,S,n,hk⟩
  ·obtain⟨its,_,pl,_⟩:=I.list hq
   refine⟨pl.isList.typeIs,fun a e=>?_⟩
   cases e
   obtain⟨o,n,e,c,hd,_⟩:=pl
   exact⟨o,e,hd⟩
  ·refine⟨⟨o,I.kIn p o hk,hc⟩,fun a e=>?_⟩
   cases e
   exact⟨o,I.kIn _ o hk,hd⟩
  ·have z:∃ o,s.heap.get? p=some o∧o.ExactDict:=by
    rcases hk with⟨kvs,hk⟩|⟨kvs,hk⟩
    ·obtain⟨_,_,_,_,o,_,_,e,ex,_⟩:=I.hok p _ hk
     exact⟨o,e,ex⟩
    ·obtain⟨_,_,_,_,o,_,_,e,ex,_⟩:=I.hok p _ hk
     exact⟨o,e,ex⟩
   obtain⟨o,e,ex⟩:=z
   refine⟨⟨o,e,ex.1⟩,fun a e2=>?_⟩
   cases e2
   exact⟨o,e,ex.2.1⟩
  ·obtain⟨o,_,_,_,e,ex,_⟩:=I.hok p _ hk
   refine⟨⟨o,e,ex.1⟩,fun a e2=>?_⟩
   cases e2
   exact⟨o,e,ex.2.1⟩
 |_=>exact False.elim ty
def tBM0(K:Frag)(T:String)(r:V→List V→Hp→VK→Prop)(to:TE):TE:=fun σ H Q=>to σ H fun x H1=>tyV K T x H1∧r x [] H1 Q
def tBM(K:Frag)(T:String)(r:V→List V→Hp→VK→Prop)(to:TE)(t:TA):TE:=fun σ H Q=>to σ H fun x H1=>tyV K T x H1∧t σ H1 fun xs H2=>r x xs H2 Q
variable{o e:Expr}{es:List Expr}{to:TE}{t:TA}{name:Str}{apos cpos:Pos}{T id:String}{r:V→List V→Hp→VK→Prop}
theorem xa(pa:PlainAttrs T)(slot:Slot T name id)(hty:typeOf (.builtin id)=pure (.type "method_descriptor"))(hm:MtR X id r)(ho:PE X o to)
  (hbase:attributeBase o name X.env (eval o X.env)=eval o X.env:=by rfl) (hline:(apos.endLine==cpos.line)=true:=by rfl):PE X (.Call (.Attribute o name apos) [] [] cpos) (tBM0 X.K T r to):=by
 intro pins s σ H Q I h
 refine wpAny_Call_method0_late hbase hline (thn (ho pins s σ H _ I h) fun v s1 ⟨x,H1,I1,r1,ty,q1⟩=>?_)
 obtain⟨h1,h2⟩:=xR I1 r1 ty
 exact⟨T,id,pa,slot,hty,h1,h2,Calls.callWith_builtin rfl (PySem.evalArgs_none (hm pins s1 σ H1 x [] v [] Q I1 r1 .nil q1))⟩
theorem i0(pa:PlainAttrs T)(slot:Slot T name id)(hty:typeOf (.builtin id)=pure (.type "method_descriptor"))(hm:MtR X id r)(ho:PE X o to)(ha:PA X (e::es) t)
  (hbase:attributeBase o name X.env (eval o X.env)=eval o X.env:=by rfl)
  (hfew:((backTo cpos (starEach (e::es) X.env)).all (fun x=> !x.1)&&(backToKw cpos (keywordEach [] X.env)).all (fun x=>x.1.isSome)
   &&decide ((e::es).length+([]:List Keyword).length+(if([]:List Keyword).isEmpty then 0 else 1)<30))=true:=by rfl)
  (hline:(apos.endLine==cpos.line)=true:=by rfl) (hs:starEach (e::es) X.env=(false,eval e X.env)::starEach es X.env:=by rfl) (hplain:(backTo cpos (starEach es X.env)).any (·.1)=false:=by rfl):
  PE X (.Call (.Attribute o name apos) (e::es) [] cpos) (tBM X.K T r to t):=by
 intro pins s σ H Q I h
 refine wpAny_Call_method_late hbase hfew hline rfl (thn (ho pins s σ H _ I h) fun v s1 ⟨x,H1,I1,r1,ty,q1⟩=>?_)
 obtain⟨h1,h2⟩:=xR I1 r1 ty
 refine⟨T,id,pa,slot,hty,h1,h2,?_⟩
 have hA:=ha cpos pins s1 σ H1 _ I1 q1
 rw[hs]at hA ⊢
 refine Calls.callWith_builtin (by show(false||(backTo cpos (starEach es X.env)).any (·.1))=false;rw[hplain]<;>rfl) (Calls.evalArgs_plain ?_)
 exact thn hA fun us s2 ⟨vs,H2,I2,r2,q2⟩=>hm pins s2 σ H2 x vs v us Q I2 r1 r2 q2
end
def MtM(X:Cx)(id:String)(r:V→List V→Hp→VK→Prop):Prop:=
 ∀(pins:List (Addr×Obj)) (s:Shared) (σ:St) (H:Hp) (x:V) (xs:List V) (v:Value) (us:List Value) (Q:VK),Inv X pins σ H s→RelV x v→Vals xs us→r x xs H Q→
  wpAny (model X.prog X.w) X.A (call (.builtin id) (v::us)) (EP X pins σ Q) X.xe s
theorem Vals.one:∀{x:V} {us:List Value},Vals [x] us→∃ u,us=[u]∧RelV x u
 |_,_,.cons r .nil=>⟨_,rfl,r⟩
theorem Vals.zero:∀{us:List Value},Vals [] us→us=[]
 |_,.nil=>rfl
theorem Vals.dropLast{xs:List V}{us:List Value}(h:Vals xs us):Vals xs.dropLast us.dropLast:=by
 induction h with
 |nil=>exact .nil
 |cons r t ih=>
  cases t with
  |nil=>exact .nil
  |cons q t'=>exact .cons r ih
theorem tQ{α:Type}(l:List α):l.eraseIdx (l.length - 1)=l.dropLast:=by
 induction l with
 |nil=>rfl
 |cons a r ih=>
  cases r with
  |nil=>rfl
  |cons b r=>
   have e:(a::b::r).length - 1=((b::r).length - 1)+1:=by
    have h1:(a::b::r).length=r.length+2:=rfl
    have h2:(b::r).length=r.length+1:=rfl
    omega
   rw[e,List.eraseIdx_cons_succ,ih]
   all_goals rfl
section
variable{X:Cx}{pins:List (Addr×Obj)}{σ:St}{H:Hp}{s:Shared}{l b:Addr}{xs ys zs:List V}
theorem Inv.lset{its its':List Value}{n:Nat}{f:Array Value→Array Value}{t':Nat}(I:Inv X pins σ H s)(hH:H l=some (.lst xs))
  (e:s.heap.get? l=some {cls:= .type "list",data:= .seq its.toArray n }) (hf:f its.toArray=its'.toArray) (hv:Vals ys its') (hz:ys.length≤sizeLine):
  Inv X pins σ (upd H l (.lst ys)) {s with heap:=s.heap.update l (Obj.mapSeq f),toks:=t' }:=by
 have q:=PySem.IsL.update e f
 rw[hf]at q
 refine I.write (x:=l) (e:=l) (by rw[hH];exact trivial) (.inl rfl) (fun b' u hb hu=>(Heap.get?_update_other s.heap (Obj.mapSeq f) (Ne.symm hb)).trans hu) ⟨_,q⟩ ?_
 exact⟨hz,its',_,hv,q⟩
theorem Inv.lnew{its:List Value}{t':Nat}(I:Inv X pins σ H s)(hv:Vals ys its)(hz:ys.length≤sizeLine):
  Inv X pins σ (upd H s.heap.objs.size (.lst ys)) {s with heap:=s.heap.push {cls:= .type "list",data:= .seq its.toArray },toks:=t' }:=
 I.laid (fun _ _ q=>Heap.get?_push_of_some _ q) (le_refl _) ⟨hz,its,0,hv,Heap.get?_push_size _ rfl⟩
theorem Inv.fresh(I:Inv X pins σ H s):H s.heap.objs.size=none:=I.hok.fresh (le_refl _)
theorem Inv.lstM(I:Inv X pins σ H s)(hH:H l=some (.lst xs)):xs.length≤sizeLine∧∃(its:List Value) (n:Nat),Vals xs its∧xs.length=its.length∧s.heap.get? l=some {cls:= .type "list",data:= .seq its.toArray n }:=by
 obtain⟨z,its,n,r,e⟩:=I.hok l _ hH
 exact⟨z,its,n,r,r.length,e⟩
theorem yi{n:Nat}(h:n≤sizeLine):Builtin.List.listTooLong n=false:=by
 unfold Builtin.List.listTooLong
 exact decide_eq_false (by omega)
end
section
variable{X:Cx}
def zm:V→List V→Hp→VK→Prop:=fun x vs H Q=>∃ l xs y,x= .ref l∧vs=[y]∧H l=some (.lst xs)∧xs.length<sizeLine∧Q .non (upd H l (.lst (xs++[y])))
theorem cw:MtM X "list.append" zm:=by
 intro pins s σ H x vs v us Q I rx rv h
 obtain⟨l,xs,y,rfl,rfl,hH,hz,q⟩:=h
 cases rx
 obtain⟨u,rfl,ru⟩:=rv.one
 obtain⟨z,its,n,r,hl,e⟩:=I.lstM hH
 refine call_meets F.slot_list_append ⟨_,e,rfl⟩ F.entry_list_append (F.args_list_append_2 _ _) (PySem.list_append l its.toArray n u (by rw[size_toArray];omega)) ⟨e,?_⟩
 refine⟨.non,_,I.lset (its':=its++[u]) hH e (by simp) (r.append (.cons ru .nil)) ?_,rfl,q⟩
 rw[length_append,length_singleton]
 omega
def yQ:V→List V→Hp→VK→Prop:=fun x vs H Q=>∃ l b xs zs,x= .ref l∧vs=[.ref b]∧H l=some (.lst xs)∧H b=some (.lst zs)∧xs.length+zs.length≤sizeLine∧Q .non (upd H l (.lst (xs++zs)))
theorem wd:MtM X "list.extend" yQ:=by
 intro pins s σ H x vs v us Q I rx rv h
 obtain⟨l,b,xs,zs,rfl,rfl,hH,hB,hz,q⟩:=h
 cases rx
 obtain⟨u,rfl,ru⟩:=rv.one
 cases ru
 obtain⟨z,its,n,r,hl,e⟩:=I.lstM hH
 obtain⟨z2,its2,n2,r2,hl2,e2⟩:=I.lstM hB
 have hsz:its.toArray.size+its2.toArray.size≤sizeLine:=by rw[size_toArray,size_toArray];omega
 have hlong:¬(!its.toArray.isEmpty&&Builtin.List.listTooLong (its.toArray.size+its2.toArray.size))=true:=by
  rw[yi hsz,Bool.and_false]
  exact Bool.false_ne_true
 refine call_meets F.slot_list_extend ⟨_,e,rfl⟩ F.entry_list_extend (F.args_list_extend_2 _ _)
  (AutoSeq1.list_extend_list_list_0 l its.toArray n b its2.toArray n2 hlong (by rw[size_toArray];omega) (by omega)) ⟨e,e2,?_⟩
 refine⟨.non,_,I.lset (its':=its++its2) hH e (by simp) (r.append r2) ?_,rfl,q⟩
 rw[length_append]
 omega
def rPop:V→List V→Hp→VK→Prop:=fun x vs H Q=>∃ l xs y,x= .ref l∧vs=[]∧H l=some (.lst xs)∧xs[xs.length - 1]?=some y∧Q y (upd H l (.lst xs.dropLast))
theorem xc:MtM X "list.pop" rPop:=by
 intro pins s σ H x vs v us Q I rx rv h
 obtain⟨l,xs,y,rfl,rfl,hH,hy,q⟩:=h
 cases rx
 have hus:=rv.zero
 subst hus
 obtain⟨z,its,n,r,hl,e⟩:=I.lstM hH
 obtain⟨u,hu,ru⟩:=r.get hy
 have hy':its.toArray[its.toArray.size - 1]?=some u:=by
  show its.toArray[its.length - 1]?=some u
  rw[← Array.getElem?_toList,← hl]
  exact hu
 refine call_meets F.slot_list_pop ⟨_,e,rfl⟩ F.entry_list_pop (F.args_list_pop_1 _) (MeetsSeq.list_pop_last l its.toArray n u hy' (by rw[size_toArray];omega)) ⟨e,?_⟩
 refine⟨y,_,I.lset (its':=its.dropLast) hH e ?_ r.dropLast ?_,ru,q⟩
 ·show its.toArray.eraseIdxIfInBounds (its.toArray.size - 1)=its.dropLast.toArray
  rw[size_toArray,List.eraseIdxIfInBounds_toArray,tQ]
 ·rw[List.length_dropLast]
  omega
def rCat:R2:=fun x y H Q=>∃ l b xs zs,x= .ref l∧y= .ref b∧H l=some (.lst xs)∧H b=some (.lst zs)∧xs.length+zs.length≤sizeLine∧∀ p,H p=none→Q (.ref p) (upd H p (.lst (xs++zs)))
theorem jt:OpR X (binaryOp .Add) rCat:=by
 intro pins s σ H x y v u Q I rx ry h
 obtain⟨l,b,xs,zs,rfl,rfl,hH,hB,hz,q⟩:=h
 cases rx
 cases ry
 obtain⟨z,its,n,r,hl,e⟩:=I.lstM hH
 obtain⟨z2,its2,n2,r2,hl2,e2⟩:=I.lstM hB
 refine PySem.P.add_list e e2 ?_ (by rw[size_toArray,size_toArray];omega)
 have ea:its.toArray++its2.toArray=(its++its2).toArray:=by simp
 rw[ea]
 exact⟨.ref _,_,I.lnew (t':=s.toks) (r.append r2) (by rw[length_append];omega),rfl,q _ I.fresh⟩
end
theorem Vals.ints:∀{ns:List Int} {us:List Value},Vals (ns.map V.int) us→IntsAre us ns
 |[],us,h=>by
  rw[map_nil]at h
  cases h
  exact IntsAre.nil
 |n::ns,us,h=>by
  rw[map_cons]at h
  cases h with
  |cons r t=>
   obtain⟨k,rfl⟩:=r
   exact IntsAre.cons n k (Vals.ints t)
theorem iQ:∀{us:List Value} {ns:List Int},IntsAre us ns→Vals (ns.map V.int) us
 |_,_,.nil=>by rw[map_nil];exact Paired.nil
 |_,_,.cons n t h=>by rw[map_cons];exact Paired.cons (show RelV (V.int n) (Value.int n t)from⟨t,rfl⟩) (iQ h)
theorem Vals.bls:∀{bs:List Bool} {us:List Value},Vals (bs.map V.bl) us→us=bs.map Value.bool
 |[],us,h=>by
  rw[map_nil]at h
  cases h
  rfl
 |b::bs,us,h=>by
  rw[map_cons]at h
  cases h with
  |cons r t=>
   cases r
   rw[Vals.bls t,map_cons]
theorem Vals.ref1{a:Addr}{us:List Value}(r:Vals [V.ref a] us):us=[Value.ref a]:=by
 cases r with
 |cons r t=>
  cases t
  cases r
  rfl
section
variable{prog:Program}{w:World}{A:Around}{E:Value→Shared→Prop}{s:Shared}{l:Addr}{its:List Value}{ns:List Int}{Q:Value→Shared→Prop}
theorem zx(hh:A.handled=none)(hl:s.heap.IsList l its.toArray)(hi:IntsAre its ns)
  (h:∀ h' tk t',(∀ b o,s.heap.get? b=some o→h'.get? b=some o)→Q (.int ns.sum t') {s with heap:=h',toks:=tk }):wpAny (model prog w) A (call (.builtin "sum") [.ref l]) Q E s:=by
 obtain⟨xs,e⟩:=hi.allInts.items
 have hn:numsOf (intItems xs).toList=ns:=by rw[← e];exact hi.numsOf
 rw[nums_intItems]at hn
 rw[e]at hl
 refine PySem.sum_intListG hh hl fun h' tk t' hk=>?_
 have:=h h' tk t' hk
 rw[preSum_eq,List.take_of_length_le (by simp),hn];exact this
theorem max_raw(hh:A.handled=none)(hl:s.heap.IsList l its.toArray)(hi:IntsAre its ns)(hne:0<ns.length)
  (h:∀ h' tk M t',(∀ b o,s.heap.get? b=some o→h'.get? b=some o)→M∈ns→(∀ a,a∈ns→a≤M)→Q (.int M t') {s with heap:=h',toks:=tk }):wpAny (model prog w) A (call (.builtin "max") [.ref l]) Q E s:=by
 obtain⟨xs,e⟩:=hi.allInts.items
 have hn:numsOf (intItems xs).toList=ns:=by rw[← e];exact hi.numsOf
 rw[nums_intItems]at hn
 subst hn
 rw[e]at hl
 have hsz:0<xs.size:=by simpa using hne
 refine PySem.max_intList hh hl hsz fun v h' tk hv hk=>?_
 obtain⟨t,rfl⟩:=intItems_at hv
 obtain⟨h1,h2⟩:=argBest_gt (numAt xs) (xs.size - 1)
 refine h h' tk _ t hk ?_ fun a ha=>?_
 ·rw[numAt_eq];exact PySem.getD_mem (by rw[length_map,Array.length_toList];omega)
 ·obtain⟨j,hj,rfl⟩:=mem_getD ha
  rw[length_map,Array.length_toList]at hj
  rw[← numAt_eq];exact h2 j (by omega)
theorem zA(hh:A.handled=none)(hl:s.heap.IsList l its.toArray)(hi:IntsAre its ns)(hne:0<ns.length)
  (h:∀ h' tk M t',(∀ b o,s.heap.get? b=some o→h'.get? b=some o)→M∈ns→(∀ a,a∈ns→M≤a)→Q (.int M t') {s with heap:=h',toks:=tk }):wpAny (model prog w) A (call (.builtin "min") [.ref l]) Q E s:=by
 obtain⟨xs,e⟩:=hi.allInts.items
 have hn:numsOf (intItems xs).toList=ns:=by rw[← e];exact hi.numsOf
 rw[nums_intItems]at hn
 subst hn
 rw[e]at hl
 have hsz:0<xs.size:=by simpa using hne
 refine PySem.min_intList hh hl hsz fun v h' tk hv hk=>?_
 obtain⟨t,rfl⟩:=intItems_at hv
 obtain⟨h1,h2⟩:=argBest_lt (numAt xs) (xs.size - 1)
 refine h h' tk _ t hk ?_ fun a ha=>?_
 ·rw[numAt_eq];exact PySem.getD_mem (by rw[length_map,Array.length_toList];omega)
 ·obtain⟨j,hj,rfl⟩:=mem_getD ha
  rw[length_map,Array.length_toList]at hj
  rw[← numAt_eq];exact h2 j (by omega)
end
section
variable{X:Cx}
def rSum(K:Frag):List V→Hp→VK→Prop:=fun vs H Q=>∃(a:Addr) (ns:List Int),vs=[V.ref a]∧SqL K H a (ns.map V.int)∧Q (.int ns.sum) H
def rMin(K:Frag):List V→Hp→VK→Prop:=fun vs H Q=>∃(a:Addr) (ns:List Int),vs=[V.ref a]∧SqL K H a (ns.map V.int)∧0<ns.length∧∀ m,m∈ns→(∀ y,y∈ns→m≤y)→Q (.int m) H
theorem o3(hc:X.calm=true):dr X (.builtin "sum") (rSum X.K):=by
 intro pins s σ H vs us Q I r h
 obtain⟨a,ns,rfl,hs,q⟩:=h
 obtain⟨its,rv,hl,_⟩:=I.list hs
 rw[Vals.ref1 r]
 exact zx (I.ok.hd hc) hl.isList rv.ints fun h' tk t' hk=>⟨.int _,H,I.kept hk,⟨_,rfl⟩,q⟩
theorem xA(hc:X.calm=true):dr X (.builtin "min") (rMin X.K):=by
 intro pins s σ H vs us Q I r h
 obtain⟨a,ns,rfl,hs,hne,q⟩:=h
 obtain⟨its,rv,hl,_⟩:=I.list hs
 rw[Vals.ref1 r]
 exact zA (I.ok.hd hc) hl.isList rv.ints hne fun h' tk m t' hk h1 h2=>⟨.int _,H,I.kept hk,⟨_,rfl⟩,q m h1 h2⟩
def yR(K:Frag):List V→Hp→VK→Prop:=fun vs H Q=>∃(a:Addr) (ns:List Int),vs=[V.ref a]∧SqL K H a (ns.map V.int)∧ns.length<64∧
 ∀(ns':List Int) (p:Addr),ns'.Perm ns→ns'.Pairwise (· ≤ ·)→H p=none→Q (.ref p) (upd H p (.lst (ns'.map V.int)))
theorem zb{n:Nat}(h:n<64):n≤sizeLine:=by rw[sizeLine_eq];omega
theorem jr:dr X (.builtin "sorted") (yR X.K):=by
 intro pins s σ H vs us Q I r h
 obtain⟨a,ns,rfl,hs,h64,q⟩:=h
 obtain⟨its,rv,hl,_⟩:=I.list hs
 rw[Vals.ref1 r]
 have hi:=rv.ints
 refine PyProof.Rows.sorted_ints hl.isList hi (by rw[hi.length];exact h64) fun out ns' h1 h2 h3=>?_
 obtain⟨ep,he'⟩:=PyProof.Rows.sortedAll_at s.heap its out
 have hlen:(ns'.map V.int).length≤sizeLine:=by rw[length_map,h2.length_eq];exact zb h64
 exact⟨.ref _,upd H (s.heap.objs.size+1) (.lst (ns'.map V.int)),I.laid (t':=s.toks) (fun _ _=>PyProof.Rows.sortedAll_old) (Nat.le_succ _) ⟨hlen,out.toList,ep,iQ h1,he'⟩,rfl,q ns' _ h2 h3 (I.hok.fresh (Nat.le_succ _))⟩
end
theorem xS{prog:Program}{w:World}{A:Around}{E:Value→Shared→Prop}{s:Shared}{l:Addr}{items:Array Value}{Q:Value→Shared→Prop}(hl:s.heap.IsList l items)
  (h:∀ s₂:Shared,s₂={s with heap:=s.heap.push {cls:= .type "list_iterator",data:= .fields #[.ref l,.int 0 0] } }→
   (s₂.heap.IsListIter s.heap.objs.size l 0∧s₂.heap.IsList l items)→l≠s.heap.objs.size→Q (.ref s.heap.objs.size) s₂):wpAny (model prog w) A (pyIter (.ref l)) Q E s:=by
 have hlt:l<s.heap.objs.size:=by obtain⟨_,e,_⟩:=hl;exact Heap.lt_size e
 exact wpAny_pyIter_list hl (h _ rfl ⟨⟨_,Heap.get?_push_size _ rfl,rfl,rfl⟩,hl.push _⟩ (ne_of_lt hlt))
theorem qH{prog:Program}{w:World}{A:Around}{bs:List Bool}{its:List Value}(e:its=bs.map Value.bool):
  TruthOf prog w A (fun i v=>its.toArray[i]?=some v) (fun i=>bs.getD i false):=fun i v s Q E hv hq=>by
 have hv':its[i]?=some v:=by simpa using hv
 rw[e,List.getElem?_map]at hv'
 obtain⟨b,hb,rfl⟩:=Option.map_eq_some_iff.mp hv'
 have hg:bs.getD i false=b:=by rw[getD_eq_getElem?_getD,hb]<;>rfl
 have hq':Q (bs.getD i false) s:=hq
 rw[hg]at hq'
 exact wpAny_truthy_bool hq'
theorem wU:∀ bs:List Bool,(List.range bs.length).any (fun i=>bs.getD i false)=bs.any id
 |[]=>rfl
 |b::bs=>by
  rw[length_cons,List.range_succ_eq_map,any_cons,List.any_map,any_cons,← wU bs]
  all_goals rfl
theorem oB:∀ bs:List Bool,(List.range bs.length).all (fun i=>bs.getD i false)=bs.all id
 |[]=>rfl
 |b::bs=>by
  rw[length_cons,List.range_succ_eq_map,all_cons,all_map,all_cons,← oB bs]
  all_goals rfl
section
variable{X:Cx}
def rAll(K:Frag):List V→Hp→VK→Prop:=fun vs H Q=>∃(a:Addr) (bs:List Bool),vs=[V.ref a]∧SqL K H a (bs.map V.bl)∧Q (.bl (bs.all id)) H
theorem As(hc:X.calm=true):dr X (.builtin "all") (rAll X.K):=by
 intro pins s σ H vs us Q I r h
 obtain⟨a,bs,rfl,hs,q⟩:=h
 obtain⟨its,rv,hl,_⟩:=I.list hs
 rw[Vals.ref1 r]
 have hb:=rv.bls
 refine call_all_walk (xS hl.isList fun s₂ e2 st hne=>?_)
 subst e2
 refine⟨_,_,_,_,_,_,_,rfl,Walks.list (A:=X.A.in1) (I.ok.hd hc) _ a hne its.toArray,st,qH hb,fun h' tk hk=>?_⟩
 refine⟨.bl _,H,I.kept fun b o eo=>hk b o (fun hmem=>?_) (Heap.get?_push_of_some _ eo),?_,q⟩
 ·rcases mem_cons.mp hmem with e1|hmem
  ·exact absurd (e1▸Heap.lt_size eo) (lt_irrefl _)
  ·cases hmem
 ·show Value.bool _=Value.bool _
  rw[← oB,hb,size_toArray,length_map]
end
mutual
inductive Dp(K:Frag)(H:Hp):V→PyData→Prop
 |non:Dp K H .non .none
 |bl (b:Bool):Dp K H (.bl b) (.bool b)
 |int (i:Int):Dp K H (.int i) (.int i)
 |str (x:Str):Dp K H (.str x) (.str x)
 |lst {a:Addr} {xs:List V} {ds:List PyData}:SqL K H a xs→oh K H xs ds→Dp K H (.ref a) (.list ds)
 |tup {a:Addr} {xs:List V} {ds:List PyData}:SqT K H a xs→oh K H xs ds→Dp K H (.ref a) (.tuple ds)
inductive oh(K:Frag)(H:Hp):List V→List PyData→Prop
 |nil:oh K H [] []
 |cons {v:V} {vs:List V} {d:PyData} {ds:List PyData}:Dp K H v d→oh K H vs ds→oh K H (v::vs) (d::ds)
end
section
variable{X:Cx}{pins:List (Addr×Obj)}{σ:St}{H:Hp}{s:Shared}
mutual
theorem Dp.reads(I:Inv X pins σ H s):∀(d:PyData) (v:V) (u:Value),Dp X.K H v d→RelV v u→∃ as,Reads s.heap u d as
 | .none,_,_,h,r=>by
  cases h
  cases r
  exact⟨_,Reads.none⟩
 | .bool b,_,_,h,r=>by
  cases h
  cases r
  exact⟨_,Reads.bool b⟩
 | .int i,_,_,h,r=>by
  cases h
  obtain⟨t,rfl⟩:=r
  exact⟨_,Reads.int i t⟩
 | .str x,_,_,h,r=>by
  cases h
  obtain⟨t,rfl⟩:=r
  exact⟨_,Reads.str x t⟩
 | .list ds,_,_,h,r=>by
  cases h with
  |lst hs ha=>
   cases r
   obtain⟨its,rv,⟨o,n,ho,hc,_,hd⟩,_⟩:=I.list hs
   obtain⟨as,hr⟩:=Dp.readsAll I ds _ its ha rv
   exact⟨_,Reads.list ho hc hd hr⟩
 | .tuple ds,_,_,h,r=>by
  cases h with
  |tup hs ha=>
   cases r
   obtain⟨its,rv,⟨o,ho,hc,n,hd⟩,_⟩:=I.tuple hs
   obtain⟨as,hr⟩:=Dp.readsAll I ds _ its ha rv
   exact⟨_,Reads.tuple ho hc hd hr⟩
 | .dict _,_,_,h,_=>by cases h
theorem Dp.readsAll(I:Inv X pins σ H s):∀(ds:List PyData) (vs:List V) (us:List Value),oh X.K H vs ds→Vals vs us→∃ as,ReadsAll s.heap us ds as
 |[],_,_,h,r=>by
  cases h
  cases r
  exact⟨_,ReadsAll.nil⟩
 |d::ds,_,_,h,r=>by
  cases h with
  |cons h1 h2=>
   cases r with
   |cons r1 r2=>
    obtain⟨as,q1⟩:=Dp.reads I d _ _ h1 r1
    obtain⟨bs,q2⟩:=Dp.readsAll I ds _ _ h2 r2
    exact⟨_,ReadsAll.cons q1 q2⟩
end
end
section
variable{X:Cx}
def rEqD(K:Frag):R2:=fun x y H Q=>∃ d e,Dp K H x d∧Dp K H y e∧SeqAt.shaped d=true∧SeqAt.shaped e=true∧Q (.bl (PyData.eqv d e)) H
theorem Av(hu:X.A.units+64<cLine):OpR X (compareOp .Eq) (rEqD X.K):=by
 intro pins s σ H x y v u Q I rx ry h
 obtain⟨d,e,hd,he,sd,se,q⟩:=h
 obtain⟨as,r1⟩:=Dp.reads I d x v hd rx
 obtain⟨bs,r2⟩:=Dp.reads I e y u he ry
 exact SeqAt.compareEq_shaped r1 r2 sd se hu ⟨.bl _,H,I,rfl,q⟩
end
abbrev xm(h:Heap)(c:Addr)(v:Option Value):Prop:=h.IsCell c v
def relS(scope sc:Scope):Scope:=
 {scope with names:=scope.names.map fun(n,k)=>if(k== .free&&sc.kind== .function&&sc.names.lookup n==some .cell)then(n,.cell)else(n,k) }
def a9(cells:List (Str×Addr)):List (Str×NameKind)→List (Str×Addr)→List (Str×Addr)
 |[],acc=>acc
 |(n,k)::r,acc=>if k== .free then a9 cells r ((n,(cells.lookup n).getD 0)::acc)else a9 cells r acc
theorem i6(env:Env)(f:Str×NameKind→List (Str×Addr)→Sem (ForInStep (List (Str×Addr))))
  (hf:∀ n k c,f (n,k) c=if k== .free then(do let a ← cellOf env n;pure (.yield ((n,a)::c)))else pure (.yield c)):
  ∀(names:List (Str×NameKind)) (acc:List (Str×Addr)),(∀ y∈names,y.2= .free→∃ c,env.cells.lookup y.1=some c)→forIn names acc f=pure (a9 env.cells names acc)
 |[],acc,_=>by rw[List.forIn_nil];rfl
 |(n,k)::r,acc,h=>by
  rw[List.forIn_cons,hf]
  have ih:=fun acc=>i6 env f hf r acc fun y hy=>h y (mem_cons_of_mem _ hy)
  unfold a9
  by_cases hk:(k==NameKind.free)=true
  ·rw[if_pos hk,if_pos hk]
   obtain⟨c,hc⟩:=h (n,k) mem_cons_self (by simpa using hk)
   have e:cellOf env n=pure c:=by unfold cellOf;rw[hc]
   rw[e]
   have e2:(env.cells.lookup n).getD 0=c:=by rw[hc];rfl
   rw[e2]
   exact ih _
  ·rw[if_neg hk,if_neg hk]
   exact ih _
theorem sX{scope:Scope}{env:Env}(h:∀ y∈scope.names,y.2= .free→∃ c,env.cells.lookup y.1=some c):closureFor scope env=pure (a9 env.cells scope.names []):=by
 simp only[closureFor]
 rw[i6 env _ (fun n k c=>rfl) scope.names [] h]
 rfl
theorem g6{α:Type}:∀{l:List (Str×α)} {n:Str} {c:α},(n,c)∈l→∃ c',l.lookup n=some c'
 |(k,v)::r,n,c,h=>by
  rw[lookup_cons]
  cases hb:n==k with
  |true=>exact⟨_,rfl⟩
  |false=>
   rcases mem_cons.mp h with e|h
   ·cases e;simp at hb
   ·exact g6 h
theorem dm{cells:List (Str×Addr)}:∀{names:List (Str×NameKind)} {acc:List (Str×Addr)} {n:Str} {c:Addr},(n,c)∈a9 cells names acc→(n,c)∈acc∨((n,.free)∈names∧c=(cells.lookup n).getD 0)
 |[],_,_,_,h=> .inl h
 |(m,k)::r,acc,n,c,h=>by
  unfold a9 at h
  split at h
  ·rename_i hk
   have hk:k= .free:=by simpa using hk
   rcases dm h with h|⟨h1,h2⟩
   ·rcases mem_cons.mp h with e|h
    ·cases e;exact .inr ⟨hk▸mem_cons_self,rfl⟩
    ·exact .inl h
   ·exact .inr ⟨mem_cons_of_mem _ h1,h2⟩
  ·rcases dm h with h|⟨h1,h2⟩
   ·exact .inl h
   ·exact .inr ⟨mem_cons_of_mem _ h1,h2⟩
theorem fm{cells:List (Str×Addr)}:∀{names:List (Str×NameKind)} {acc:List (Str×Addr)} {p:Str×Addr},p∈acc→p∈a9 cells names acc
 |[],_,_,h=>h
 |(m,k)::r,acc,p,h=>by
  unfold a9
  split
  ·exact fm (mem_cons_of_mem _ h)
  ·exact fm h
theorem fJ{cells:List (Str×Addr)}:∀{names:List (Str×NameKind)} {acc:List (Str×Addr)} {n:Str},(n,.free)∈names→(n,(cells.lookup n).getD 0)∈a9 cells names acc
 |(m,k)::r,acc,n,h=>by
  unfold a9
  rcases mem_cons.mp h with e|h
  ·cases e
   exact fm mem_cons_self
  ·split
   ·exact fJ h
   ·exact fJ h
theorem dJ:∀{names:List (Str×NameKind)} {h:Heap} {acc:List (Str×Addr)} {x:Str} {c:Addr},(x,c)∈cellsFrom h.objs.size names acc→
  (x,c)∈acc∨((x,.cell)∈names∧h.objs.size≤c∧xm (pushCells h names) c none)
 |[],_,_,_,_,h=> .inl h
 |(n,k)::r,h,acc,x,c,hm=>by
  unfold cellsFrom at hm
  unfold pushCells
  split at hm
  ·rename_i hk
   rw[if_pos hk]
   have hk:k= .cell:=by simpa using hk
   rw[← Heap.size_push h {cls:= .type "cell",data:= .cell none }]at hm
   rcases dJ hm with hm|⟨h1,h2,h3⟩
   ·rcases mem_cons.mp hm with e|hm
    ·cases e
     exact .inr ⟨hk▸mem_cons_self,le_refl _,_,pushCells_keeps r _ _ _ (Heap.get?_push_size _ rfl),rfl⟩
    ·exact .inl hm
   ·rw[Heap.size_push]at h2
    exact .inr ⟨mem_cons_of_mem _ h1,le_of_succ_le h2,h3⟩
  ·rename_i hk
   rw[if_neg hk]
   rcases dJ hm with hm|⟨h1,h2,h3⟩
   ·exact .inl hm
   ·exact .inr ⟨mem_cons_of_mem _ h1,h2,h3⟩
theorem gC:∀{names:List (Str×NameKind)} {n:Nat} {acc:List (Str×Addr)} {p:Str×Addr},p∈acc→p∈cellsFrom n names acc
 |[],_,_,_,h=>h
 |(m,k)::r,n,acc,p,h=>by
  unfold cellsFrom
  split
  ·exact gC (mem_cons_of_mem _ h)
  ·exact gC h
theorem je:∀{names:List (Str×NameKind)} {n:Nat} {acc:List (Str×Addr)} {x:Str},(x,.cell)∈names→∃ c,(x,c)∈cellsFrom n names acc
 |(m,k)::r,n,acc,x,h=>by
  unfold cellsFrom
  rcases mem_cons.mp h with e|h
  ·cases e
   exact⟨n,gC mem_cons_self⟩
  ·split
   ·exact je h
   ·exact je h
theorem jo:∀{names:List (Str×NameKind)} {h:Heap} {acc:List (Str×Addr)} {x y:Str} {c:Addr},(∀ p∈acc,p.2<h.objs.size)→(∀ x y c,(x,c)∈acc→(y,c)∈acc→x=y)→
  (x,c)∈cellsFrom h.objs.size names acc→(y,c)∈cellsFrom h.objs.size names acc→x=y
 |[],_,_,_,_,_,_,hi,h1,h2=>hi _ _ _ h1 h2
 |(n,k)::r,h,acc,x,y,c,hl,hi,h1,h2=>by
  unfold cellsFrom at h1 h2
  split at h1
  ·rename_i hk
   rw[if_pos hk]at h2
   rw[← Heap.size_push h {cls:= .type "cell",data:= .cell none }]at h1 h2
   refine jo (h:=h.push _) (fun p hp=>?_) (fun x y c a b=>?_) h1 h2
   ·rw[Heap.size_push]
    rcases mem_cons.mp hp with rfl|hp
    ·exact Nat.lt_succ_self _
    ·exact Nat.lt_succ_of_lt (hl p hp)
   ·rcases mem_cons.mp a with e|a<;>rcases mem_cons.mp b with e'|b
    ·cases e;cases e';rfl
    ·cases e;exact absurd (hl _ b) (lt_irrefl _)
    ·cases e';exact absurd (hl _ a) (lt_irrefl _)
    ·exact hi _ _ _ a b
  ·rename_i hk
   rw[if_neg hk]at h2
   exact jo hl hi h1 h2
theorem sE{M:Model}{A:Around}{E:Value→Shared→Prop}{s:Shared}{scope:Scope}{globals:Addr}{closure:List (Str×Addr)}{qual:Str}{func:Option Addr}{code:Value}{around:Env}{builtins:Addr}{Q:Env→Shared→Prop}
  (h:Q (newEnv scope s.heap.objs.size globals (cellsFrom (s.heap.objs.size+1) scope.names closure) qual func code (some around) builtins)
   {s with heap:=pushCells (s.heap.push {cls:= .type "dict",data:= .dict #[] }) scope.names }):
  wpAny M A (newFunctionEnv scope globals closure [] qual func code (some around) builtins) Q E s:=by
 simp only[newFunctionEnv,Option.isSome_some,if_true]
 refine wpAny_bind (wpAny_alloc ?_)
 refine wpAny_bind (wpAny_layCells _ (fun n k c=>rfl) scope.names closure _ _ ?_)
 rw[show({s with heap:=s.heap.push {cls:= .type "dict",data:= .dict #[] } }:Shared).heap.objs.size=s.heap.objs.size+1 from Heap.size_push ..]
 rw[List.forIn_nil]
 exact wpAny_bind (wpAny_pure (wpAny_pure h))
theorem gf{sc:Scope}:∀{names:List (Str×NameKind)} {x:Str} {k:NameKind},
  (names.map fun(n,k)=>if(k==NameKind.free&&sc.kind== .function&&sc.names.lookup n==some .cell)then(n,NameKind.cell)else(n,k)).lookup x=some k→
  ∃ k',names.lookup x=some k'∧(k=k'∨(k'= .free∧k= .cell))
 |[],_,_,h=>by simp at h
 |(n,k₀)::r,x,k,h=>by
  have ih:= @gf sc r x k
  have h':List.lookup x ((if(k₀==NameKind.free&&sc.kind== .function&&sc.names.lookup n==some .cell)=true then(n,NameKind.cell)else(n,k₀))::(r.map _))=some k:=h
  cases hx:x==n with
  |true=>
   simp only[lookup_cons,hx]
   by_cases hc:(k₀==NameKind.free&&sc.kind== .function&&sc.names.lookup n==some .cell)=true
   ·rw[if_pos hc]at h'
    simp only[lookup_cons,hx]at h'
    cases h'
    simp only[Bool.and_eq_true,beq_iff_eq]at hc
    exact⟨k₀,rfl,.inr ⟨hc.1.1,rfl⟩⟩
   ·rw[if_neg hc]at h'
    simp only[lookup_cons,hx]at h'
    cases h'
    exact⟨_,rfl,.inl rfl⟩
  |false=>
   simp only[lookup_cons,hx]
   by_cases hc:(k₀==NameKind.free&&sc.kind== .function&&sc.names.lookup n==some .cell)=true
   ·rw[if_pos hc]at h'
    simp only[lookup_cons,hx]at h'
    exact ih h'
   ·rw[if_neg hc]at h'
    simp only[lookup_cons,hx]at h'
    exact ih h'
structure rH(N:List Str)(sc scope:Scope)(own:List (Str×Nat)):Prop where
 kind:scope.kind= .function
 uniq:∀ y∈scope.names,scope.names.lookup y.1=some y.2
 ix:∀ p∈own,N[p.2]?=some p.1
 free:∀ y∈scope.names,y.2= .free→sc.names.lookup y.1=some .cell∨sc.names.lookup y.1=some .free
 own:∀ y∈scope.names,y.2= .local∨y.2= .cell→y.1∈own.map (·.1)∨y.1∉N
def wipe(σ:St):List Nat→St
 |[]=>σ
 |v::vs=>(wipe σ vs).set v none
theorem gm(σ:St):∀ vs:List Nat,(wipe σ vs).length=σ.length
 |[]=>rfl
 |v::vs=>by unfold wipe;rw[length_set,gm σ vs]
theorem jn{σ:St}{i:Nat}{x:V}:∀{vs:List Nat},(wipe σ vs)[i]?=some (some x)→σ[i]?=some (some x)∧i∉vs
 |[],h=>⟨h,by simp⟩
 |v::vs,h=>by
  unfold wipe at h
  by_cases hi:v=i
  ·subst hi
   by_cases hv:v<(wipe σ vs).length
   ·rw[List.getElem?_set_self hv]at h;cases h
   ·rw[List.getElem?_eq_none (by simpa using hv)]at h;cases h
  ·rw[List.getElem?_set_ne hi]at h
   obtain⟨h1,h2⟩:=jn h
   exact⟨h1,by simp only[mem_cons,not_or];exact⟨fun e=>hi e.symm,h2⟩⟩
abbrev Cx.blk(X:Cx)(s:Shared)(H:Hp)(scope:Scope)(cenv:Env)(fp:List Addr):Cx:={X with s_0:=s,H_0:=H,env:=cenv,outer:=X.stack,ex:=fp,fn:=fun x=>scope.names.lookup x==some .cell,pn:=[],xe:=fun _ _=>False }
section
variable{X:Cx}{pins:List (Addr×Obj)}{σ:St}{H:Hp}{s:Shared}
theorem rE{scope:Scope}{own:List (Str×Nat)}{fp:List Addr}(I:Inv X pins σ H s)(ok:rH X.N X.env.scope scope own)(hN:X.N.Nodup)(hfp:∀ b∈fp,jZ X pins H b∧b<s.heap.objs.size):
  Inv (X.blk s H scope (compEnvC scope (cellsFrom (s.heap.objs.size+1) scope.names (a9 X.env.cells scope.names [])) s.heap.objs.size X.env) fp) [] (wipe σ (own.map (·.2))) H {s with heap:=pushCells (s.heap.push {cls:= .type "dict",data:= .dict #[] }) scope.names }:=by
 have hfree:∀ y∈scope.names,y.2= .free→∃ c,X.env.cells.lookup y.1=some c:=fun y hy e=>by
  rcases ok.free y hy e with k|k
  ·exact I.ok.has _ (.inl k)
  ·exact I.ok.has _ (.inr k)
 generalize hcenv:compEnvC scope (cellsFrom (s.heap.objs.size+1) scope.names (a9 X.env.cells scope.names [])) s.heap.objs.size X.env=cenv
 have kp:∀ b o,s.heap.get? b=some o→(pushCells (s.heap.push {cls:= .type "dict",data:= .dict #[] }) scope.names).get? b=some o:=fun b o e=>pushCells_keeps _ _ _ _ (Heap.get?_push_of_some _ e)
 have hL:cenv.locals=s.heap.objs.size:=by rw[← hcenv];rfl
 have hcl:cenv.cells=cellsFrom (s.heap.objs.size+1) scope.names (a9 X.env.cells scope.names []):=by rw[← hcenv];rfl
 have hsc:cenv.scope=relS scope X.env.scope:=by rw[← hcenv];rfl
 rw[← Heap.size_push s.heap {cls:= .type "dict",data:= .dict #[] }]at hcl
 have cm:∀{y c},(y,c)∈a9 X.env.cells scope.names []→X.env.cells.lookup y=some c∧c<s.heap.objs.size:=fun {y c} hm=>by
  rcases dm hm with hm|⟨h1,rfl⟩
  ·cases hm
  ·obtain⟨c,hc⟩:=hfree _ h1 rfl
   rw[hc]
   obtain⟨w,z⟩:=I.cell _ _ hc
   exact⟨rfl,z.lt⟩
 have mem:∀{y c},cenv.cells.lookup y=some c→(X.env.cells.lookup y=some c∧c<s.heap.objs.size)∨(s.heap.objs.size+1≤c∧xm (pushCells (s.heap.push {cls:= .type "dict",data:= .dict #[] }) scope.names) c none):=fun {y c} e=>by
  rw[hcl]at e
  rcases dJ (PySem.mem_of_lookup e)with hm|⟨_,h2,h3⟩
  ·exact .inl (cm hm)
  ·rw[Heap.size_push]at h2;exact .inr ⟨h2,h3⟩
 have look:∀{y},scope.names.lookup y=some .free→∃ c,cenv.cells.lookup y=some c∧X.env.cells.lookup y=some c:=fun {y} hl=>by
  have hy:(y,NameKind.free)∈scope.names:=PySem.mem_of_lookup hl
  obtain⟨c',e'⟩:=g6 (gC (names:=scope.names) (n:=(s.heap.push {cls:= .type "dict",data:= .dict #[] }).objs.size) (fJ (cells:=X.env.cells) (acc:=[]) hy))
  rw[← hcl]at e'
  refine⟨c',e',?_⟩
  rw[hcl]at e'
  rcases dJ (PySem.mem_of_lookup e')with hm|⟨h1,_,_⟩
  ·exact(cm hm).1
  ·have:=ok.uniq _ h1
   rw[hl]at this;cases this
 have okB:(X.blk s H scope cenv fp).Ok:=by
  refine⟨I.ok.mod,by show cenv.scope.kind=_;rw[hsc];exact ok.kind,by show cenv.globals=_;rw[← hcenv];exact I.ok.glob,by show cenv.builtins=_;rw[← hcenv];exact I.ok.blt,by show s.heap.objs.size≤cenv.locals;rw[hL];exact le_refl _,
   fun y z c e1 e2=>?_,fun y hy=>?_,fun y c z e=>?_,I.ok.hd,I.ok.frames,.inl rfl,fun b hb=>⟨?_,fun y c e z=>?_⟩,I.bs,le_trans I.ok.bsz I.sz,fun b o e hb=>?_,fun b hb z=>?_,I.stack,I.stkFree⟩
  ·have e1:cenv.cells.lookup y=some c:=e1
   have e2:cenv.cells.lookup z=some c:=e2
   rw[hcl]at e1 e2
   refine jo (fun p hp=>?_) (fun y z c a b=>I.ok.inj y z c (cm a).1 (cm b).1) (PySem.mem_of_lookup e1) (PySem.mem_of_lookup e2)
   rw[Heap.size_push]
   exact Nat.lt_succ_of_lt (cm (y:=p.1) (c:=p.2) hp).2
  ·show ∃ c,cenv.cells.lookup y=some c
   have key:∀ k,cenv.kindOf y=some k→(k= .cell∨k= .free)→∃ c,cenv.cells.lookup y=some c:=fun k hk hk'=>by
    unfold Env.kindOf at hk
    rw[hsc]at hk
    obtain⟨k',e,r⟩:=gf hk
    have:k'= .cell∨k'= .free:=by
     rcases r with rfl|⟨rfl,_⟩
     ·exact hk'
     ·exact .inr rfl
    rcases this with rfl|rfl
    ·obtain⟨c,hm⟩:=je (n:=(s.heap.push {cls:= .type "dict",data:= .dict #[] }).objs.size) (acc:=a9 X.env.cells scope.names []) (PySem.mem_of_lookup e)
     obtain⟨c',e'⟩:=g6 hm
     exact⟨c',by rw[hcl];exact e'⟩
    ·obtain⟨c,h1,_⟩:=look e
     exact⟨c,h1⟩
   rcases hy with hy|hy
   ·exact key _ hy (.inl rfl)
   ·exact key _ hy (.inr rfl)
  ·have z:(scope.names.lookup y==some NameKind.cell)=true:=z
   have z:scope.names.lookup y=some .cell:=by simpa using z
   have e:cenv.cells.lookup y=some c:=e
   rw[hcl]at e
   rcases dJ (PySem.mem_of_lookup e)with hm|⟨_,h2,_⟩
   ·rcases dm hm with hm|⟨h1,_⟩
    ·cases hm
    ·have q:=ok.uniq _ h1
     rw[z]at q;cases q
   ·rw[Heap.size_push]at h2
    exact le_of_succ_le h2
  ·show b≠cenv.locals
   rw[hL];exact ne_of_lt (hfp b hb).2
  ·have e:cenv.cells.lookup y=some c:=e
   rcases mem e with⟨h1,_⟩|⟨h1,_⟩
   ·exact(hfp b hb).1.2.2.2.2.1 y c h1 z
   ·have h2:s.heap.objs.size+1≤b:=by rw[← z];exact h1
    exact absurd (lt_of_lt_of_le (hfp b hb).2 (le_of_succ_le h2)) (lt_irrefl _)
  ·rcases(hfp b hb).1.2.2.2.1 with z|z
   ·exact I.ok.noex b o e z
   ·exact absurd (lt_of_lt_of_le (Heap.lt_size e) (le_trans I.ok.bsz z)) (lt_irrefl _)
  ·rcases mem_cons.mp (I.stkSub b z)with z|z
   ·exact(hfp b hb).1.2.1 z
   ·exact(hfp b hb).1.2.2.1 z
 refine⟨okB,rfl,I.bare,Un.kept kp,⟨fun _=>none,?_,fun i y av e1 e2 e3=>?_⟩,fun y c e=>?_,?_,fun y c e=>?_,fun p hp=>?_,I.hok.kept kp,by rw[gm];exact I.len⟩
 ·show Heap.Ns _ cenv.locals _
  rw[hL]
  exact Heap.Ns.keeps (Heap.Ns.new ..) fun b o e=>pushCells_keeps _ _ _ _ e
 ·obtain⟨e2,hne⟩:=jn e2
  have hfr:scope.names.lookup y=some .free∧(cenv.kindOf y=some .cell∨cenv.kindOf y=some .free):=by
   have key:∀ k,cenv.scope.names.lookup y=some k→k= .local∨k= .cell∨k= .free→scope.names.lookup y=some .free∧(cenv.kindOf y=some .cell∨cenv.kindOf y=some .free):=fun k hk hk'=>by
    have hk0:=hk
    rw[hsc]at hk
    obtain⟨k',e,r⟩:=gf hk
    have no:¬(k'= .local∨k'= .cell):=fun hh=>by
     rcases ok.own _ (PySem.mem_of_lookup e) hh with e'|e'
     ·obtain⟨p,hp,hpy⟩:=mem_map.mp e'
      have e3:=ok.ix p hp
      have:p.1=y:=hpy
      rw[this]at e3
      exact hne (mem_map.mpr ⟨p,hp,mv hN e3 e1⟩)
     ·exact e' (mem_of_getElem? e1)
    rcases r with rfl|⟨rfl,rfl⟩
    ·rcases hk' with rfl|rfl|rfl
     ·exact absurd (.inl rfl) no
     ·exact absurd (.inr rfl) no
     ·exact⟨e,.inr hk0⟩
    ·exact⟨e,.inl hk0⟩
   have e3:Vis cenv.scope y:=e3
   rcases e3 with e3|e3|e3
   ·exact key _ e3 (.inl rfl)
   ·exact key _ e3 (.inr (.inl rfl))
   ·exact key _ e3 (.inr (.inr rfl))
  obtain⟨m,hn,hl⟩:=I.loc
  have hvis:Vis X.env.scope y:=(ok.free _ (PySem.mem_of_lookup hfr.1) rfl).elim (fun k=> .inr (.inl k)) (fun k=> .inr (.inr k))
  obtain⟨w,r,q⟩:=hl i y av e1 e2 hvis
  refine⟨w,r,.inr ⟨hfr.2,?_⟩⟩
  obtain⟨c,h1,h2⟩:=look hfr.1
  rcases q with⟨k,_⟩|⟨_,c',e',z⟩
  ·have k:X.env.scope.names.lookup y=some .local:=k
   rcases ok.free _ (PySem.mem_of_lookup hfr.1) rfl with k'|k'<;>rw[show X.env.scope.names.lookup y=_ from k']at k<;>cases k
  ·rw[h2]at e';cases e'
   exact⟨c,h1,z.keeps kp⟩
 ·have e:cenv.cells.lookup y=some c:=e
  rcases mem e with⟨h1,_⟩|⟨_,z⟩
  ·obtain⟨w,z⟩:=I.cell y c h1
   exact⟨w,z.keeps kp⟩
  ·exact⟨_,z⟩
 ·show H cenv.locals=none
  rw[hL];exact I.hok.fresh (le_refl _)
 ·have e:cenv.cells.lookup y=some c:=e
  rcases mem e with⟨h1,_⟩|⟨h1,_⟩
  ·exact I.freeC y c h1
  ·exact I.hok.fresh (le_of_succ_le h1)
 ·exact absurd (show p∈([]:List (Addr×Obj))++[]from hp) (by simp)
theorem Ap{E:Value→Shared→Prop}{D:Addr}{xs:List V}{y:V}{v:Value}{Q:Value→Shared→Prop}(I:Inv X pins σ H s)(hD:H D=some (.lst xs))(hz:xs.length<sizeLine)(r:RelV y v)
  (h:∀ s',Inv X pins σ (upd H D (.lst (xs++[y]))) s'→Q .none s'):wpAny (model X.prog X.w) X.A (call (.builtin "list.append") [.ref D,v]) Q E s:=by
 obtain⟨hz',its,n,ri,e⟩:=I.hok D _ hD
 have hl:=ri.length
 refine append_at (hsz:=by rw[size_toArray];omega) e fun h' sb ho'=>?_
 refine h {s with heap:=h' } (I.write (t':=s.toks) (by rw[hD];trivial) (.inl rfl) (fun b u hb q=>(sb.2 b hb).trans q) ⟨_,ho'⟩ ⟨by rw[length_append];exact hz,its++[v],n+1,ri.append (.cons r .nil),?_⟩)
 rw[ho']
 simp
def PTs(X:Cx)(ifs:List Expr)(t:TT):Prop:=
 ∀(pins:List (Addr×Obj)) (s:Shared) (σ:St) (H:Hp) (Q:Bool→Hp→Prop),Inv X pins σ H s→t σ H Q→
  wpAny (model X.prog X.w) X.A (forIn ifs true fun c r=>if r=true then do let ok ← isTrue c X.env (eval c X.env);pure (ForInStep.yield ok)else pure (ForInStep.yield r)) (TP X pins σ Q) X.xe s
def jX:TT:=fun _ H Q=>Q true H
theorem aU:PTs X [] jX:=fun _ _ _ H _ I h=>wpAny_tests_nil ⟨H,I,h⟩
theorem eM{c:Expr}{t:TT}(h:PT X c t):PTs X [c] t:=fun pins s σ H Q I hw=>wpAny_tests_one (h pins s σ H Q I hw)
end
theorem wb{α:Type}{t:Sem α}{Q Q':α→Shared→Prop}{M:Model}{A:Around}{E:Value→Shared→Prop}{s:Shared}(h:wpAny M A t Q (fun _ _=>False) s)(hQ:∀ a s,Q a s→Q' a s):wpAny M A t Q' E s:=wpAny_mono h hQ fun _ _ z=>False.elim z
theorem pH{prog:Program}{w:World}{A:Around}{R:Result→Shared→Prop}{s:Shared}{elt target iter:Expr}{ifs:List Expr}{scope:Scope}{pos:Pos}{it acc:Value}{env:Env}(I:Nat→Shared→Prop)
  (turn:∀ n s,I n s→wpAny (model prog w) A (pyNext it) (fun r s₁=>match r with
   |none=>R (.ok .next) s₁
   |some v=>wpAny (model prog w) A (letOwnedTupleGo target it v) (fun _ s₁'=>wpAny (model prog w) A (assign target env v) (fun _ s₂=>
     wpAny (model prog w) A (forIn ifs true fun c r=>if r=true then do let ok ← isTrue c env (eval c env);pure (ForInStep.yield ok)else pure (ForInStep.yield r)) (fun ok s₃=>
      if ok=true then wpAny (model prog w) A (eval elt env) (fun x s₄=>
       wpAny (model prog w) A (call (.builtin "list.append") [acc,x]) (fun _ s₅=>∃ m,m<n∧I m s₅) (notedBy (model prog w) A env fun e s'=>R (.error e) s') s₄) (notedBy (model prog w) A env fun e s'=>R (.error e) s') s₃
      else ∃ m,m<n∧I m s₃) (notedBy (model prog w) A env fun e s'=>R (.error e) s') s₂) (notedBy (model prog w) A env fun e s'=>R (.error e) s') s₁') (notedBy (model prog w) A env fun e s'=>R (.error e) s') s₁) (notedBy (model prog w) A env fun e s'=>R (.error e) s') s)
  (n:Nat) (h:I n s):
  codeAny (model prog w) A (.compLoop (.ListComp elt [⟨target,iter,ifs,0⟩] scope pos) 0 it acc env) R s:=by
 refine codeAny_loop rfl I (fun n s hI=>?_) n h
 show wpAny _ A ((compTurn (.ListComp elt [⟨target,iter,ifs,0⟩] scope pos) 0 it acc env).onRaise (fun x=>do noteFrame x env;theTreesLotGoes x)) _ _ s
 refine wpAny_noted ?_
 rw[compTurn_list]
 refine wpAny_bind (wpAny_standAt (wpAny_bind (wpAny_mono (turn n s hI) (fun r s₁ h₁=>?_) fun _ _ h'=>h')))
 cases r with
 |none=>exact wpAny_pure h₁
 |some v=>
  refine wpAny_bind (wpAny_mono h₁ (fun _ s₁' h₁'=>?_) fun _ _ h'=>h')
  refine wpAny_bind (wpAny_mono h₁' (fun _ s₂ h₂=>wpAny_bind (wpAny_mono h₂ (fun ok s₃ h₃=>?_) fun _ _ h'=>h')) fun _ _ h'=>h')
  cases ok with
  |false=>exact wpAny_pure ⟨rfl,h₃⟩
  |true=>
   exact wpAny_bind (wpAny_bind (wpAny_mono h₃ (fun x s₄ h₄=>wpAny_bind (wpAny_mono h₄ (fun _ s₅ h₅=>wpAny_pure (wpAny_pure ⟨rfl,h₅⟩)) fun _ _ h'=>h')) fun _ _ h'=>h'))
section
variable{X:Cx}
def tLc(wi:TI)(g:TG)(tt:TT)(te:TE)(vs:List Nat):TE:=fun σ H Q=>wi σ H fun J H1=>∀ D,H1 D=none→∃ W:Nat→Nat→Hp→Prop,(∃ m,W 0 m (upd H1 D (.lst [])))∧∀ i m H,W i m H→
 (J.stop i H∧Q (.ref D) H)∨(J.go i H∧∃ Nx:Hp→Prop,(∀ H',Nx H'→∃ m',m'<m∧W (i+1) m' H')∧∀ x H',J.yld i H x H'→g x (wipe σ vs) H' fun σ2 H2=>wipe σ2 vs=wipe σ vs∧tt σ2 H2 fun b H3=>
  if b=true then te σ2 H3 fun y H4=>∃ acc,H4 D=some (.lst acc)∧acc.length<sizeLine∧Nx (upd H4 D (.lst (acc++[y])))else Nx H3)
theorem vc{pins:List (Addr×Obj)}{s:Shared}{σ:St}{H:Hp}{Q:VK}{elt tg iter:Expr}{ifs:List Expr}{scope:Scope}{own:List (Str×Nat)}{pos pos':Pos}{wi:TI}{g:TG}{tt:TT}{te:TE}{use:Option (Value→Sem Unit)}{Qf:Value→Shared→Prop}
  (hc:X.calm=true) (hN:X.N.Nodup) (I:Inv X pins σ H s) (hi:PI X tg iter wi) (ok:rH X.N X.env.scope scope own)
  (hg:∀(s:Shared) (H:Hp) (C:Addr) (cl:List (Str×Addr)) (fp:List Addr),PG (X.blk s H scope (compEnvC scope cl C X.env) fp) tg g) (ht:∀(s:Shared) (H:Hp) (C:Addr) (cl:List (Str×Addr)) (fp:List Addr),PTs (X.blk s H scope (compEnvC scope cl C X.env) fp) ifs tt)
  (he:∀(s:Shared) (H:Hp) (C:Addr) (cl:List (Str×Addr)) (fp:List Addr),PE (X.blk s H scope (compEnvC scope cl C X.env) fp) elt te) (hs:∀ x,foldedSetIterable iter X.env x=pure x)
  (h:tLc wi g tt te (own.map (·.2)) σ H Q)
  (hRR:∀ D C s' m H',Inv X pins σ H' s'→Q (.ref D) H'→s'.heap.Ns C m→jZ X pins H' C→compPost (model X.prog X.w) X.A X.xe use Qf (.ref D) C (.ok .next) s'):
  wpAny (model X.prog X.w) X.A (comprehension (.ListComp elt [⟨tg,iter,ifs,0⟩] scope pos) scope X.env pos' (newList []) false (eval iter X.env) use) Qf X.xe s:=by
 have hfree:∀ y∈scope.names,y.2= .free→∃ c,X.env.cells.lookup y.1=some c:=fun y hy e=>by
  rcases ok.free y hy e with k|k
  ·exact I.ok.has _ (.inl k)
  ·exact I.ok.has _ (.inr k)
 refine wpAny_comprehension_free (use:=use) rfl hs (sX hfree) ok.kind (fun y hy e=>by rw[ok.uniq y hy,e])
  (thn (hi pins s σ H _ I h) fun xv s1 hx=>thn hx fun itv s2 h2=>?_)
 obtain⟨it,fp,tn,J,H2,e,I2,T,st2,f2,q⟩:=h2
 subst e
 refine wpAny_newObj_type (sE ?_) (by show 0≤sizeLine;decide)
 generalize hD:s2.heap.objs.size=D
 have hDn:H2 D=none:=I2.hok.fresh (Nat.le_of_eq hD)
 obtain⟨W,⟨m0,w0⟩,turn⟩:=q D hDn
 generalize hs3:({s2 with heap:=s2.heap.push {cls:= .type "list",data:= .seq ([]:List Value).toArray } }:Shared)=s3
 have I3:Inv X pins σ (upd H2 D (.lst [])) s3:=by
  rw[← hs3]
  refine I2.laid (t':=s2.toks) (fun b o e=>Heap.get?_push_of_some _ e) (Nat.le_of_eq hD) ⟨zero_le _,[],0,.nil,?_⟩
  rw[← hD]
  exact Heap.get?_push_size _ rfl
 have h3:s3.heap=s2.heap.push {cls:= .type "list",data:= .seq ([]:List Value).toArray }:=by rw[← hs3]
 have sz:∀ b∈fp,b<s2.heap.objs.size:=fun b hb=>by
  obtain⟨o,e,_⟩:=T.obj _ _ st2 b hb
  exact Heap.lt_size e
 have f3:∀ b∈fp,jZ X pins (upd H2 D (.lst [])) b∧b<s3.heap.objs.size:=fun b hb=>by
  have hlt:=sz b hb
  refine⟨⟨?_,(f2 b hb).2⟩,by rw[h3,Heap.size_push];exact Nat.lt_succ_of_lt hlt⟩
  rw[ao (by rw[← hD];exact ne_of_lt hlt)]
  exact(f2 b hb).1
 have st3:tn 0 s3.heap:=T.keep _ _ _ st2 fun b _ o e=>by rw[h3];exact Heap.get?_push_of_some _ e
 have I4:=rE I3 ok hN f3
 have pg:=hg s3 (upd H2 D (.lst [])) s3.heap.objs.size (cellsFrom (s3.heap.objs.size+1) scope.names (a9 X.env.cells scope.names [])) fp
 have pt:=ht s3 (upd H2 D (.lst [])) s3.heap.objs.size (cellsFrom (s3.heap.objs.size+1) scope.names (a9 X.env.cells scope.names [])) fp
 have pe:=he s3 (upd H2 D (.lst [])) s3.heap.objs.size (cellsFrom (s3.heap.objs.size+1) scope.names (a9 X.env.cells scope.names [])) fp
 show codeAny _ _ (.compStart (.ListComp elt [⟨tg,iter,ifs,0⟩] scope pos) 0 (.ref it) (.ref D) (compEnvC scope (cellsFrom (s3.heap.objs.size+1) scope.names (a9 X.env.cells scope.names [])) s3.heap.objs.size X.env)) (compPost (model X.prog X.w) X.A X.xe use Qf (.ref D) s3.heap.objs.size) {s3 with heap:=pushCells (s3.heap.push {cls:= .type "dict",data:= .dict #[] }) scope.names }
 have nfp:∀ b∈fp,(upd H2 D (.lst [])) b=none:=fun b hb=>(f3 b hb).1.1
 generalize hce:compEnvC scope (cellsFrom (s3.heap.objs.size+1) scope.names (a9 X.env.cells scope.names [])) s3.heap.objs.size X.env=ce at I4 pg pt pe ⊢
 have cL:ce.locals=s3.heap.objs.size:=by subst hce;rfl
 generalize hH3:upd H2 D (.lst [])=H3 at I3 I4 pg pt pe w0 nfp f3
 generalize hs4:({s3 with heap:=pushCells (s3.heap.push {cls:= .type "dict",data:= .dict #[] }) scope.names }:Shared)=s4 at I4 ⊢
 have st4:tn 0 s4.heap:=T.keep _ _ _ st3 fun b _ o e=>by rw[← hs4];exact pushCells_keeps _ _ _ _ (Heap.get?_push_of_some _ e)
 have stat:∀{σ':St} {H':Hp} {s':Shared},Inv (X.blk s3 H3 scope ce fp) [] σ' H' s'→(∀ b∈fp,H' b=none)→∀ b∈fp,jZ (X.blk s3 H3 scope ce fp) [] H' b:=fun {σ' H' s'} I' hn b hb=>
  ⟨hn b hb,(I'.ok.exf b hb).1,I'.ok.exfs b hb,.inl hb,fun x c e=>(I'.ok.exf b hb).2 x c e,fun p hp=>absurd (show p∈([]:List (Addr×Obj))++[]from hp) (by simp)⟩
 have loop:codeAny (model X.prog X.w) X.A (.compLoop (.ListComp elt [⟨tg,iter,ifs,0⟩] scope pos) 0 (.ref it) (.ref D) ce) (compPost (model X.prog X.w) X.A X.xe use Qf (.ref D) s3.heap.objs.size) s4:=by
  refine pH (fun n s'=>∃ i H',Inv (X.blk s3 H3 scope ce fp) [] (wipe σ (own.map (·.2))) H' s'∧tn i s'.heap∧(∀ b∈fp,H' b=none)∧W i n H') ?_ m0 ⟨0,H3,I4,st4,nfp,w0⟩
  rintro n s5 ⟨i,H5,I5,st5,n5,w5⟩
  rcases turn i n H5 w5 with⟨stop,qq⟩|⟨go,Nx,hNx,step⟩
  ·have td:=T.done (X.blk s3 H3 scope ce fp) rfl rfl rfl hc i [] s5 _ H5 (fun _ _=>False) I5 (stat I5 n5) st5 stop
   refine wb td fun r s6 ⟨hr,I6⟩=>?_
   subst hr
   have I7:Inv X pins σ H5 s6:=I3.call' (ch:=fp) I6.os I6.base I6.hok I6.bare fun b hb=>⟨(f3 b hb).1.2.2.2.1,(f3 b hb).1.2.1,(f3 b hb).1.2.2.2.2.1,(f3 b hb).1.2.2.2.2.2⟩
   have nC:H5 s3.heap.objs.size=none:=by
    have z:H5 ce.locals=none:=I6.free
    rw[cL]at z
    exact z
   obtain⟨m,hn,_⟩:=I6.loc
   have hn:s6.heap.Ns ce.locals m:=hn
   rw[cL]at hn
   exact hRR D s3.heap.objs.size s6 m H5 I7 qq hn (I3.fpOk (le_refl _) nC)
  ·have ti:=T.item (X.blk s3 H3 scope ce fp) rfl rfl rfl hc i [] s5 _ H5 (fun _ _=>False) I5 (stat I5 n5) st5 go
   refine wb ti fun r s6 ⟨u,hr,h6⟩=>?_
   subst hr
   refine wb h6 fun _ s7 ⟨x,H7,I7,r7,y7,st7,n7⟩=>?_
   have I7':=I7.pinned (stat I7 n7) (T.obj _ _ st7)
   refine wb (pg _ s7 _ H7 x u _ I7' r7 (step x H7 y7)) fun _ s8 ⟨σ8,H8,I8,hw8,q8⟩=>?_
   refine wb (pt _ s8 σ8 H8 _ I8 q8) fun b s9 ⟨H9,I9,q9⟩=>?_
   have fin:∀{s':Shared} {H':Hp},Inv (X.blk s3 H3 scope ce fp) ([]++mP fp s7.heap) σ8 H' s'→Nx H'→∃ m,m<n∧∃ i H',Inv (X.blk s3 H3 scope ce fp) [] (wipe σ (own.map (·.2))) H' s'∧tn i s'.heap∧(∀ b∈fp,H' b=none)∧W i m H':=fun {s' H'} I' nx=>by
    obtain⟨m',hm,w'⟩:=hNx H' nx
    have pin':∀ b∈fp,∀ o,s7.heap.get? b=some o→s'.heap.get? b=some o∧H' b=none:=fun b hb o e=>
     let z:=I'.pin (b,o) (mem_append_right _ (mem_append_right _ (g9 hb e)))
     ⟨z.1,z.2.1⟩
    have hl:(wipe σ (own.map (·.2))).length=σ8.length:=by rw[← hw8,gm]
    refine⟨m',hm,i+1,H',(I'.unpinned (pins:=[])).weak hl (fun j v e=>?_),T.keep _ _ _ st7 fun b hb o e=>(pin' b hb o e).1,fun b hb=>?_,w'⟩
    ·rw[← hw8]at e
     exact(jn e).1
    ·obtain⟨o,e,_⟩:=T.obj _ _ st7 b hb
     exact(pin' b hb o e).2
   cases b with
   |false=>
    simp only[Bool.false_eq_true,if_false]at q9 ⊢
    exact fin I9 q9
   |true=>
    simp only[if_true]at q9 ⊢
    refine wb (pe _ s9 σ8 H9 _ I9 q9) fun z s10 ⟨yv,H10,I10,r10,acc,hD10,hz10,nx⟩=>?_
    exact Ap (X:=X.blk s3 H3 scope ce fp) I10 hD10 hz10 r10 fun s11 I11=>fin I11 nx
 exact codeAny_compStart_list loop (T.self X.A 0 _ _ _ st4 loop)
theorem bL{elt tg iter:Expr}{ifs:List Expr}{scope:Scope}{own:List (Str×Nat)}{pos:Pos}{wi:TI}{g:TG}{tt:TT}{te:TE}(hc:X.calm=true)(hN:X.N.Nodup)(hi:PI X tg iter wi)(ok:rH X.N X.env.scope scope own)
  (hg:∀(s:Shared) (H:Hp) (C:Addr) (cl:List (Str×Addr)) (fp:List Addr),PG (X.blk s H scope (compEnvC scope cl C X.env) fp) tg g) (ht:∀(s:Shared) (H:Hp) (C:Addr) (cl:List (Str×Addr)) (fp:List Addr),PTs (X.blk s H scope (compEnvC scope cl C X.env) fp) ifs tt)
  (he:∀(s:Shared) (H:Hp) (C:Addr) (cl:List (Str×Addr)) (fp:List Addr),PE (X.blk s H scope (compEnvC scope cl C X.env) fp) elt te) (hs:∀ x,foldedSetIterable iter X.env x=pure x:=by intro _;rfl):
  PE X (.ListComp elt [⟨tg,iter,ifs,0⟩] scope pos) (tLc wi g tt te (own.map (·.2))):=by
 intro pins s σ H Q I h
 rw[eval_ListComp]
 refine vc hc hN I hi ok hg ht he hs h fun D C s' m H' I' q hn f=>⟨m,hn,fun h'' sb=>?_⟩
 obtain⟨f0,f1,f2,f3,f4,f5⟩:=f
 exact⟨.ref D,H',I'.turned (t':=s'.toks) (fun b o hb e=>(sb.2 b hb).trans e) f0 f1 f3 f4 f5,rfl,q⟩
theorem dN{i:Nat}{y:Str}{py:Pos}{elt tg iter:Expr}{ifs:List Expr}{scope:Scope}{own:List (Str×Nat)}{pos spos:Pos}{wi:TI}{g:TG}{tt:TT}{te:TE}(hc:X.calm=true)(hN:X.N.Nodup)(hy:X.N[i]?=some y)(hyl:X.env.scope.names.lookup y=some .local)
  (hsw:swapsWith (.ListComp elt [⟨tg,iter,ifs,0⟩] scope pos) (some (.Name y py)) spos.line X.env=pure true) (hi:PI X tg iter wi) (ok:rH X.N X.env.scope scope own)
  (hg:∀(s:Shared) (H:Hp) (C:Addr) (cl:List (Str×Addr)) (fp:List Addr),PG (X.blk s H scope (compEnvC scope cl C X.env) fp) tg g) (ht:∀(s:Shared) (H:Hp) (C:Addr) (cl:List (Str×Addr)) (fp:List Addr),PTs (X.blk s H scope (compEnvC scope cl C X.env) fp) ifs tt)
  (he:∀(s:Shared) (H:Hp) (C:Addr) (cl:List (Str×Addr)) (fp:List Addr),PE (X.blk s H scope (compEnvC scope cl C X.env) fp) elt te) (hs:∀ x,foldedSetIterable iter X.env x=pure x:=by intro _;rfl):
  PS X (.Assign [.Name y py] (.ListComp elt [⟨tg,iter,ifs,0⟩] scope pos) spos) (Aj (tLc wi g tt te (own.map (·.2))) (gS i)):=by
 intro pins s σ H D I h
 rw[exec_Assign_Name_used _ _ _ _ hsw]
 refine wpAny_bind (wpAny_standAt (wpAny_bind ?_))
 show wpAny _ X.A (do let _ ← comprehension (.ListComp elt [⟨tg,iter,ifs,0⟩] scope pos) scope X.env (firstIterPos [⟨tg,iter,ifs,0⟩] pos) (newList []) false (eval iter X.env) (some (assign (.Name y py) X.env))) _ _ s
 have h:tLc wi g tt te (own.map (·.2)) σ H (fun x H1=>gS i x σ H1 D.nx):=h
 refine wpAny_bind (thn (vc (Qf:=fun _ s'=>SP X pins D .next s') hc hN I hi ok hg ht he hs h fun L C s' m H' I' q hn f=>?_) fun _ s' hq=>wpAny_pure (wpAny_pure hq))
 show wpAny _ _ (assign (.Name y py) X.env (.ref L)) _ _ _
 refine wpAny_assign_Name (nY (v:=V.ref L) I' hN hy (.inl hyl) rfl (fun s2 I2 ⟨a,sb,ha⟩=>?_) (.inr hyl))
 obtain⟨f0,f1,f2,f3,f4,f5⟩:=f
 have haC:C≠a:=by
  rcases ha with z|z
  ·rw[z];exact f1
  ·exact fun e=>f4 y a z e.symm
 refine⟨m,hn.sameBut sb haC,fun h3 sb3=>?_⟩
 exact⟨_,H',I2.turned (t':=s2.toks) (fun b o hb e=>(sb3.2 b hb).trans e) f0 f1 f3 f4 f5,q⟩
theorem gJ{elt:Expr}{gs:List Comprehension}{scope:Scope}{pos py:Pos}{y:Str}{l:Nat}{env:Env}(hk:env.scope.kind= .function)(hy:env.scope.names.lookup y=some .local)(hl:(py.line==pos.line)=true)
  (ha:(scope.names.any fun(n,k)=>n==y&&(k== .local||k== .cell))=false):swapsWith (.ListComp elt gs scope pos) (some (.Name y py)) l env=pure true:=by
 have ky:env.kindOf y=some .local:=hy
 have hb:env.blockKind= .function:=by unfold Env.blockKind;rw[hk];rfl
 unfold swapsWith
 simp only[hb,ky,ha,Expr.pos,hl]
 rfl
end
def bX(N:List Str)(sc scope:Scope)(own:List (Str×Nat)):Bool:=
 (match scope.kind with| .function=>true|_=>false)&&(scope.names.all fun y=>decide (scope.names.lookup y.1=some y.2))&&(own.all fun p=>decide (N[p.2]?=some p.1))&&
  (scope.names.all fun y=>match y.2 with
   | .free=>(match sc.names.lookup y.1 with|some .cell=>true|some .free=>true|_=>false)
   | .local=>decide (y.1∈own.map (·.1))||decide (y.1∉N)
   | .cell=>decide (y.1∈own.map (·.1))||decide (y.1∉N)
   |_=>true)
theorem aM{N:List Str}{sc scope:Scope}{own:List (Str×Nat)}(h:bX N sc scope own=true):rH N sc scope own:=by
 unfold bX at h
 simp only[Bool.and_eq_true,all_eq_true,decide_eq_true_eq]at h
 obtain⟨⟨⟨h1,h2⟩,h3⟩,h4⟩:=h
 refine⟨?_,h2,h3,fun y hy e=>?_,fun y hy e=>?_⟩
 ·split at h1
  ·assumption
  ·cases h1
 ·have q:=h4 y hy
  simp only[e]at q
  split at q<;>first|exact .inl (by assumption)|exact .inr (by assumption)|cases q
 ·have q:=h4 y hy
  rcases e with e|e<;>(simp only[e,Bool.or_eq_true,decide_eq_true_eq]at q;exact q)
section
variable{κ:Type}[DecidableEq κ]
def bj(kvs:List (κ×V))(k:κ):Option V:=(kvs.find? fun kv=>decide (kv.1=k)).map (·.2)
def cC(kvs:List (κ×V))(k:κ)(v:V):List (κ×V):=
 if(kvs.any fun kv=>decide (kv.1=k))=true then kvs.map (fun kv=>if kv.1=k then(kv.1,v)else kv)else kvs++[(k,v)]
theorem bI{p:κ×V}{r:List (κ×V)}{k:κ}(e:p.1=k):bj (p::r) k=some p.2:=by simp[bj,List.find?_cons,e]
theorem bG{p:κ×V}{r:List (κ×V)}{k:κ}(e:¬ p.1=k):bj (p::r) k=bj r k:=by simp[bj,List.find?_cons,e]
theorem ef(k:κ):∀ kvs:List (κ×V),(kvs.any fun kv=>decide (kv.1=k))=(bj kvs k).isSome
 |[]=>rfl
 |p::r=>by
  rw[any_cons]
  by_cases e:p.1=k
  ·simp only[bI e,decide_eq_true e,Bool.true_or,Option.isSome_some]
  ·rw[bG e,decide_eq_false e,Bool.false_or];exact ef k r
theorem rK(k j:κ)(y:V):∀ kvs:List (κ×V),bj (kvs.map fun kv=>if kv.1=k then(kv.1,y)else kv) j=(bj kvs j).map fun x=>if j=k then y else x
 |[]=>rfl
 |p::r=>by
  have ih:=rK k j y r
  rw[map_cons]
  by_cases h:p.1=k
  ·rw[if_pos h]
   by_cases e:p.1=j
   ·rw[bI (p:=(p.1,y)) e,bI e,Option.map_some,if_pos (e.symm.trans h)]
   ·rw[bG (p:=(p.1,y)) e,bG e,ih]
  ·rw[if_neg h]
   by_cases e:p.1=j
   ·rw[bI (p:=p) e,bI e,Option.map_some,if_neg (fun z=>h (e.trans z))]
   ·rw[bG (p:=p) e,bG e,ih]
theorem nQ(k j:κ)(y:V):∀ kvs:List (κ×V),bj kvs k=none→bj (kvs++[(k,y)]) j=if j=k then some y else bj kvs j
 |[],_=>by
  by_cases e:k=j
  ·rw[if_pos e.symm];exact bI (p:=(k,y)) e
  ·rw[if_neg (fun z=>e z.symm)];exact bG (p:=(k,y)) e
 |p::r,hn=>by
  rw[List.cons_append]
  have hk:¬ p.1=k:=fun z=>by rw[bI z]at hn;cases hn
  rw[bG hk]at hn
  have ih:=nQ k j y r hn
  by_cases e:p.1=j
  ·rw[bI e,bI e,if_neg (fun z=>hk (e.trans z))]
  ·rw[bG e,bG e,ih]
theorem fz(kvs:List (κ×V))(k j:κ)(y:V):bj (cC kvs k y) j=if j=k then some y else bj kvs j:=by
 unfold cC
 by_cases a:(kvs.any fun kv=>decide (kv.1=k))=true
 ·rw[if_pos a,rK]
  rw[ef]at a
  by_cases e:j=k
  ·obtain⟨x,hx⟩:=Option.isSome_iff_exists.mp a
   rw[if_pos e,e,hx,Option.map_some,if_pos rfl]
  ·rw[if_neg e]
   cases bj kvs j with
   |none=>rfl
   |some x=>rw[Option.map_some,if_neg e]
 ·rw[if_neg a]
  refine nQ k j y kvs ?_
  rw[ef]at a
  cases q:bj kvs k with
  |none=>rfl
  |some x=>rw[q]at a;exact(a rfl).elim
theorem cP(kvs:List (κ×V))(k:κ)(v:V):(cC kvs k v).length≤kvs.length+1:=by
 unfold cC
 split
 ·rw[length_map];omega
 ·rw[length_append,length_cons,List.length_nil];omega
theorem xV{kvs:List (κ×V)}{k:κ}(v:V)(h:bj kvs k=none):cC kvs k v=kvs++[(k,v)]:=by
 unfold cC
 rw[ef,h]
 exact if_neg (by decide)
theorem RelO.isSome_eq{o:Option V}{u:Option Value}(r:RelO o u):o.isSome=u.isSome:=by
 cases o with
 |none=>cases u with
  |none=>rfl
  |some _=>exact(show False from r).elim
 |some _=>cases u with
  |none=>exact(show False from r).elim
  |some _=>rfl
theorem RelO.getD{o:Option V}{u:Option Value}{d:V}{d':Value}(r:RelO o u)(rd:RelV d d'):RelV (o.getD d) (u.getD d'):=by
 cases o with
 |none=>cases u with
  |none=>exact rd
  |some _=>exact(show False from r).elim
 |some _=>cases u with
  |none=>exact(show False from r).elim
  |some _=>exact r
theorem KV.val{kvs:List (κ×V)}{vs:List (κ×Value)}(r:KV kvs vs)(k:κ):RelO (bj kvs k) (valueAt vs k):=by
 unfold KV at r
 induction r with
 |nil=>exact True.intro
 | @cons p q ps qs h t ih=>
  obtain⟨h1,h2⟩:=h
  by_cases e:p.1=k
  ·have e':q.1=k:=h1.symm.trans e
   have b:valueAt (q::qs) k=some q.2:=by simp[valueAt,List.find?_cons,e']
   rw[bI e,b];exact h2
  ·have e':¬ q.1=k:=fun z=>e (h1.trans z)
   have b:valueAt (q::qs) k=valueAt qs k:=by simp[valueAt,List.find?_cons,e']
   rw[bG e,b];exact ih
theorem KV.any{kvs:List (κ×V)}{vs:List (κ×Value)}(r:KV kvs vs)(k:κ):(kvs.any fun kv=>decide (kv.1=k))=vs.any fun kv=>decide (kv.1=k):=by
 unfold KV at r
 induction r with
 |nil=>rfl
 |cons h t ih=>rw[any_cons,any_cons,ih,h.1]
theorem KV.repl{kvs:List (κ×V)}{vs:List (κ×Value)}(r:KV kvs vs)(k:κ){y:V}{u:Value}(ry:RelV y u):
  KV (kvs.map fun kv=>if kv.1=k then(kv.1,y)else kv) (vs.map fun kv=>if kv.1=k then(kv.1,u)else kv):=by
 unfold KV at r ⊢
 induction r with
 |nil=>exact .nil
 | @cons p q ps qs h t ih=>
  rw[map_cons,map_cons]
  refine .cons ?_ ih
  obtain⟨h1,h2⟩:=h
  by_cases e:p.1=k
  ·rw[if_pos e,if_pos (h1.symm.trans e)];exact⟨h1,ry⟩
  ·rw[if_neg e,if_neg (fun z=>e (h1.trans z))];exact⟨h1,h2⟩
theorem KV.put{kvs:List (κ×V)}{vs:List (κ×Value)}(r:KV kvs vs)(k:κ){y:V}{u:Value}(ry:RelV y u):KV (cC kvs k y) (stored vs k u):=by
 unfold cC stored
 rw[r.any k]
 by_cases e:(vs.any fun kv=>decide (kv.1=k))=true
 ·rw[if_pos e,if_pos e];exact r.repl k ry
 ·rw[if_neg e,if_neg e];exact Paired.snoc r ⟨rfl,ry⟩
theorem KV.length{kvs:List (κ×V)}{vs:List (κ×Value)}(r:KV kvs vs):kvs.length=vs.length:=Paired.length r
end
theorem me{P:Program}{w:World}{k:Key}{u:Value}(r:RelV (kV k) u):(a7 P w).is k u=true:=by
 cases k with
 |inl i=>obtain⟨t,e⟩:=(show ∃ t,u=Value.int i t from r);subst e;exact qj P w i t
 |inr x=>obtain⟨t,e⟩:=(show ∃ t,u=Value.str x t from r);subst e;exact rJ P w x t
theorem ox{P:Program}{w:World}:∀{ks:List Key} {us:List Value},Vals (ks.map kV) us→ItemsAre (a7 P w) ks us
 |[],_,r=>by rw[map_nil]at r;cases r;exact .nil
 |k::ks,_,r=>by
  rw[map_cons]at r
  cases r with
  |cons h t=>exact .cons (me h) (ox t)
abbrev KT(H:Hp):List (List Key×V)→List (List Key×Addr×Value)→Prop:=Paired fun p q=>p.1=q.1∧H q.2.1=some (.tup (p.1.map kV))∧RelV p.2 q.2.2
theorem KT.val{H:Hp}{kvs:List (List Key×V)}{xs:List (List Key×Addr×Value)}(r:KT H kvs xs)(k:List Key):RelO (bj kvs k) ((atKey xs k).map (·.2)):=by
 induction r with
 |nil=>exact True.intro
 | @cons p q ps qs h t ih=>
  obtain⟨h1,_,h2⟩:=h
  by_cases e:p.1=k
  ·have e':q.1=k:=h1.symm.trans e
   have b:atKey (q::qs) k=some q.2:=by simp[atKey,List.find?_cons,e']
   rw[bI e,b];exact h2
  ·have e':¬ q.1=k:=fun z=>e (h1.trans z)
   have b:atKey (q::qs) k=atKey qs k:=by simp[atKey,List.find?_cons,e']
   rw[bG e,b];exact ih
theorem KT.repl{H:Hp}{kvs:List (List Key×V)}{xs:List (List Key×Addr×Value)}(r:KT H kvs xs)(k:List Key){y:V}{u:Value}(ry:RelV y u):
  KT H (kvs.map fun kv=>if kv.1=k then(kv.1,y)else kv) (xs.map (putAt k u)):=by
 induction r with
 |nil=>exact .nil
 | @cons p q ps qs h t ih=>
  rw[map_cons,map_cons]
  refine .cons ?_ ih
  obtain⟨h1,h2,h3⟩:=h
  unfold putAt
  by_cases e:p.1=k
  ·rw[if_pos e,if_pos (h1.symm.trans e)];exact⟨h1,h2,ry⟩
  ·rw[if_neg e,if_neg (fun z=>e (h1.trans z))];exact⟨h1,h2,h3⟩
theorem KT.put{H:Hp}{kvs:List (List Key×V)}{xs:List (List Key×Addr×Value)}(r:KT H kvs xs)(k:List Key){b:Addr}{y:V}{u:Value}(hb:H b=some (.tup (k.map kV)))(ry:RelV y u):
  KT H (cC kvs k y) (storedH xs k b u):=by
 have e:(kvs.any fun kv=>decide (kv.1=k))=(atKey xs k).isSome:=by
  rw[ef,(r.val k).isSome_eq,Option.isSome_map]
 unfold cC storedH
 rw[e]
 by_cases q:(atKey xs k).isSome=true
 ·rw[if_pos q,if_pos q];exact r.repl k ry
 ·rw[if_neg q,if_neg q];exact Paired.snoc r ⟨rfl,hb,ry⟩
theorem KT.keeps{H H':Hp}{kvs:List (List Key×V)}{xs:List (List Key×Addr×Value)}(r:KT H kvs xs)(ht:∀ b ys,H b=some (.tup ys)→H' b=some (.tup ys)):KT H' kvs xs:=
 Paired.mapP r fun _ _ z=>⟨z.1,ht _ _ z.2.1,z.2.2⟩
section
variable{P:Program}{w:World}{H:Hp}{h:Heap}{a:Addr}
theorem zK{u:HO}(ok:HOk P w H h)(e:Rd H a u):ObjOk P w H h a u:=e.ok ok
theorem iG{kvs:List (Key×V)}(ok:HOk P w H h)(e:Rd H a (.dK kvs)):kvs.length≤sizeLine∧(a==sysModules)=false∧∃ vs,KV kvs vs∧h.DictOf (a7 P w) a vs:=
 show ObjOk P w H h a (.dK kvs)from zK ok e
theorem nH{kvs:List (Key×V)}(ok:HOk P w H h)(e:H a=some (.dK kvs)):kvs.length≤sizeLine∧(a==sysModules)=false∧∃ vs,KV kvs vs∧h.DictOf (a7 P w) a vs:=iG ok (.inl e)
theorem fT{ks:List Key}(ok:HOk P w H h)(e:H a=some (.tup (ks.map kV))):(tupleKind (a7 P w)).is h ks a:=by
 obtain⟨_,its,r,o,h1,h2,n,h3⟩:=(show ObjOk P w H h a (.tup (ks.map kV))from ok a _ e)
 exact⟨o,its.toArray,n,h1,h2,h3,by simpa using ox r⟩
theorem jA{kvs:List (List Key×V)}(ok:HOk P w H h)(e:Rd H a (.dT kvs)):kvs.length≤sizeLine∧(a==sysModules)=false∧
  ∃ xs,KT H kvs xs∧h.DictOfH (tupleKind (a7 P w)) a xs:=by
 obtain⟨z,y,xs,r,o,es,ep,h1,h2,h3,h4,h5⟩:=(show ObjOk P w H h a (.dT kvs)from zK ok e)
 refine⟨z,y,xs,r,o,es,ep,h1,h2,h3,h4,fun x hx=>?_,h5⟩
 have all:∀{l:List (List Key×V)} {m:List (List Key×Addr×Value)},KT H l m→∀ x∈m,(tupleKind (a7 P w)).is h x.1 x.2.1:=by
  intro l m q
  induction q with
  |nil=>intro x hx;exact nomatch hx
  | @cons p q ps qs hq t ih=>
   intro x hx
   rcases mem_cons.mp hx with e|hx
   ·subst e
    exact fT ok (by rw[← hq.1];exact hq.2.1)
   ·exact ih x hx
 exact all r x hx
theorem xy{kvs:List (List Key×V)}(ok:HOk P w H h)(e:H a=some (.dT kvs)):kvs.length≤sizeLine∧(a==sysModules)=false∧
  ∃ xs,KT H kvs xs∧h.DictOfH (tupleKind (a7 P w)) a xs:=jA ok (.inl e)
end
def DGet(H:Hp)(a:Addr)(y:V)(r:Option V):Prop:=
 (∃ kvs k,Rd H a (.dK kvs)∧y=kV k∧r=bj kvs k)∨∃ kvs k b,Rd H a (.dT kvs)∧y= .ref b∧H b=some (.tup (k.map kV))∧r=bj kvs k
def DPut(H:Hp)(a:Addr)(y v:V)(H':Hp):Prop:=
 (∃ kvs k,H a=some (.dK kvs)∧y=kV k∧kvs.length<sizeLine∧H'=upd H a (.dK (cC kvs k v)))∨
 ∃ kvs k b,H a=some (.dT kvs)∧y= .ref b∧H b=some (.tup (k.map kV))∧kvs.length<sizeLine∧H'=upd H a (.dT (cC kvs k v))
theorem DGet.k{H:Hp}{a:Addr}{kvs:List (Key×V)}{k:Key}(e:H a=some (.dK kvs)):DGet H a (kV k) (bj kvs k):= .inl ⟨kvs,k,.inl e,rfl,rfl⟩
theorem DGet.t{H:Hp}{a b:Addr}{kvs:List (List Key×V)}{k:List Key}(e:H a=some (.dT kvs))(eb:H b=some (.tup (k.map kV))):DGet H a (.ref b) (bj kvs k):= .inr ⟨kvs,k,b,.inl e,rfl,eb,rfl⟩
theorem DPut.k{H:Hp}{a:Addr}{kvs:List (Key×V)}{k:Key}{v:V}(e:H a=some (.dK kvs))(hl:kvs.length<sizeLine):DPut H a (kV k) v (upd H a (.dK (cC kvs k v))):= .inl ⟨kvs,k,e,rfl,hl,rfl⟩
theorem DPut.t{H:Hp}{a b:Addr}{kvs:List (List Key×V)}{k:List Key}{v:V}(e:H a=some (.dT kvs))(eb:H b=some (.tup (k.map kV)))(hl:kvs.length<sizeLine):
  DPut H a (.ref b) v (upd H a (.dT (cC kvs k v))):= .inr ⟨kvs,k,b,e,rfl,eb,hl,rfl⟩
section
variable{X:Cx}{pins:List (Addr×Obj)}{σ:St}{H:Hp}{s:Shared}{a:Addr}{y v:V}{u r:Value}{o:Option V}{A:Around}{E:Value→Shared→Prop}
theorem Inv.big(I:Inv X pins σ H s):sysModules<s.heap.objs.size:=by
 have h:mainGlobals<s.heap.objs.size:=(I.mod.glob.keeps I.bk).lt
 exact Nat.lt_trans (by decide) h
theorem oO{Q:Value→Shared→Prop}(hu:A.units+1<cLine)(I:Inv X pins σ H s)(g:DGet H a y (some v))(ry:RelV y u)(h:∀ w' s',Inv X pins σ H s'→RelV v w'→Q w' s'):
  wpAny (model X.prog X.w) A (getItem (.ref a) u) Q E s:=by
 rcases g with⟨kvs,k,e,ey,l⟩|⟨kvs,k,b,e,ey,eb,l⟩
 ·subst ey
  obtain⟨z,hd,vs,rel,dd⟩:=iG I.hok e
  obtain⟨w',hw,rw'⟩:=RelO.some_of (v:=v) (o:=valueAt vs k) (by rw[l];exact rel.val k)
  exact wpAny_getItem_of (me ry) dd.mapOf hw (h w' _ (I.tok _) rw')
 ·subst ey
  cases (show u=Value.ref b from ry)
  obtain⟨z,hd,xs,rel,dd⟩:=jA I.hok e
  obtain⟨w',hw,rw'⟩:=RelO.some_of (v:=v) (o:=(atKey xs k).map (·.2)) (by rw[l];exact rel.val k)
  obtain⟨p,hp,hp2⟩:=Option.map_eq_some_iff.mp hw
  refine wpAny_getItem_heap (tupleKind_room_in1 hu) (fT I.hok eb) dd hp ?_
  rw[hp2]
  exact h w' _ (I.tok _) rw'
theorem d_in{Q:Value→Shared→Prop}(hu:A.units+1<cLine)(I:Inv X pins σ H s)(g:DGet H a y o)(ry:RelV y u)(h:∀ s',Inv X pins σ H s'→Q (.bool o.isSome) s'):
  wpAny (model X.prog X.w) A (compareOp .In u (.ref a)) Q E s:=by
 rcases g with⟨kvs,k,e,ey,l⟩|⟨kvs,k,b,e,ey,eb,l⟩
 ·subst ey
  obtain⟨z,hd,vs,rel,dd⟩:=iG I.hok e
  refine wpAny_in_of (me ry) hd dd.mapOf ?_
  rw[← (rel.val k).isSome_eq,← l]
  exact h _ (I.tok _)
 ·subst ey
  cases (show u=Value.ref b from ry)
  obtain⟨z,hd,xs,rel,dd⟩:=jA I.hok e
  refine wpAny_in_heap (tupleKind_room_in1 hu) (fT I.hok eb) hd dd ?_
  have q:=(rel.val k).isSome_eq
  rw[Option.isSome_map]at q
  rw[← q,← l]
  exact h _ (I.tok _)
theorem zr{Q:Value→Shared→Prop}(hu:A.units+1<cLine)(I:Inv X pins σ H s)(g:DGet H a y o)(ry:RelV y u)(h:∀ s',Inv X pins σ H s'→Q (.bool (!o.isSome)) s'):
  wpAny (model X.prog X.w) A (compareOp .NotIn u (.ref a)) Q E s:=by
 rcases g with⟨kvs,k,e,ey,l⟩|⟨kvs,k,b,e,ey,eb,l⟩
 ·subst ey
  obtain⟨z,hd,vs,rel,dd⟩:=iG I.hok e
  refine wpAny_notIn_of (me ry) hd dd.mapOf ?_
  rw[← (rel.val k).isSome_eq,← l]
  exact h _ (I.tok _)
 ·subst ey
  cases (show u=Value.ref b from ry)
  obtain⟨z,hd,xs,rel,dd⟩:=jA I.hok e
  refine wpAny_notIn_heap (tupleKind_room_in1 hu) (fT I.hok eb) hd dd ?_
  have q:=(rel.val k).isSome_eq
  rw[Option.isSome_map]at q
  rw[← q,← l]
  exact h _ (I.tok _)
theorem eN{h':Heap}{t':Nat}{ob:HO}(I:Inv X pins σ H s)(mu:Mut (H a))(hs:Heap.SameBut a s.heap h')(he:∃ q,h'.get? a=some q)(new:ObjOk X.prog X.w (upd H a ob) h' a ob):
  Inv X pins σ (upd H a ob) {s with heap:=h',toks:=t' }:=
 I.write (x:=a) (e:=a) mu (.inl rfl) (fun b q hb z=>(hs.2 b hb).trans z) he new
theorem tJ{P:Program}{w:World}{H':Hp}{h':Heap}{kvs:List (Key×V)}{vs:List (Key×Value)}(z:kvs.length≤sizeLine)(hd:(a==sysModules)=false)(rel:KV kvs vs)(dd:h'.DictOf (a7 P w) a vs):
  ObjOk P w H' h' a (.dK kvs):=⟨z,hd,vs,rel,dd⟩
theorem nV{H':Hp}{Q:Unit→Shared→Prop}(hu:A.units+1<cLine)(I:Inv X pins σ H s)(g:DPut H a y v H')(ry:RelV y u)(rv:RelV v r)(h:∀ s',Inv X pins σ H' s'→Q () s'):
  wpAny (model X.prog X.w) A (setItem (.ref a) u r) Q E s:=by
 rcases g with⟨kvs,k,e,ey,l,eH⟩|⟨kvs,k,b,e,ey,eb,l,eH⟩
 ·subst ey eH
  obtain⟨z,hd,vs,rel,dd⟩:=nH I.hok e
  have hz:vs.length≤sizeLine:=by rw[← rel.length];exact z
  have hl:(cC kvs k v).length≤sizeLine:=by have:=cP kvs k v;omega
  refine wpAny_setItem_pairs (hsz:=hz) (me ry) dd fun h' dd' hs=>h _ ?_
  have he:∃ q,h'.get? a=some q:=let⟨q,_,_,hq,_⟩:=dd';⟨q,hq⟩
  exact eN I (by rw[e];exact True.intro) hs he (tJ hl hd (rel.put k rv) dd')
 ·subst ey eH
  cases (show u=Value.ref b from ry)
  obtain⟨z,hd,xs,rel,dd⟩:=xy I.hok e
  have hz:xs.length≤sizeLine:=by rw[← Paired.length rel];exact z
  have hl:(cC kvs k v).length≤sizeLine:=by have:=cP kvs k v;omega
  refine wpAny_setItem_heap (hsz:=hz) (tupleKind_room_in1 hu) (fT I.hok eb) dd fun h' dd' hs=>h _ ?_
  obtain⟨q,es,ep,hq,h2,h3,h4,_,h5⟩:=dd'
  refine eN I (by rw[e];exact True.intro) hs ⟨q,hq⟩ ⟨hl,hd,_,(rel.put k eb rv).keeps fun c ys ec=>?_,q,es,ep,hq,h2,h3,h4,h5⟩
  rw[ao (dY ec e (fun z=>nomatch z))]
  exact ec
end
section
variable{X:Cx}{pins:List (Addr×Obj)}{σ:St}{H:Hp}{s:Shared}{a:Addr}{kvs:List (Key×V)}{k:Key}{u:Value}{A:Around}{E:Value→Shared→Prop}
theorem d_len{Q:Value→Shared→Prop}(I:Inv X pins σ H s)(e:Rd H a (.dK kvs))(h:∀ t s',Inv X pins σ H s'→Q (.int kvs.length t) s'):wpAny (model X.prog X.w) A (call (.builtin "len") [.ref a]) Q E s:=by
 obtain⟨z,hd,vs,rel,dd⟩:=iG I.hok e
 refine call_len_dict hd dd (by rw[← rel.length];rw[sizeLine_eq]at z;omega) ?_
 rw[← rel.length]
 exact h _ _ (I.tok _)
end
def NoSl(i:Expr):Prop:=∀ ov iv,subscripted i false ov iv=operate [ov,iv] (getItem ov iv)
theorem yO{prog:Program}{w:World}{A:Around}{E:Value→Shared→Prop}{s:Shared}{env:Env}{value slice:Expr}{pos:Pos}{T id:String}{Q:Value→Shared→Prop}
  (hl:typeLookup (.type T) "__getitem__"=pure (some (.builtin id))) (hs:NoSl slice)
  (h:wpAny (model prog w) A (eval value env) (fun o s₁=>wpAny (model prog w) A (eval slice env) (fun i s₂=>s₂.TypeIs o T∧wpAny (model prog w) A (getItem o i) Q E s₂) E s₁) E s):
  wpAny (model prog w) A (eval (.Subscript value slice pos) env) Q E s:=by
 refine Subscript_ (wpAny_mono h (fun o s₁ h₁=>wpAny_mono h₁ (fun i s₂ h₂=>?_) fun _ _ x=>x) fun _ _ x=>x)
 obtain⟨hT,h₂⟩:=h₂
 unfold subscriptTail
 refine wpAny_bind ?_
 rw[getitemInPython_of_ne hT.not_modules]
 refine wpAny_bind (wpAny_specialOf hT hl ?_)
 have fin:wpAny (model prog w) A (subscripted slice false o i) (fun r s₃=>wpAny (model prog w) A (letTemporaryGo value o r >>= fun _=>pure r) Q E s₃) E s₂:=by
  rw[hs o i]
  exact wpAny_operating (wpAny_mono h₂ (fun r s₃ h₃=>wpAny_bind (wpAny_letTemporaryGo (wpAny_pure h₃))) fun _ _ x=>x)
 first
  |exact wpAny_pure (wpAny_bind fin)
  |exact wpAny_bind (wpAny_pure (wpAny_bind fin))
  |exact wpAny_bind fin
theorem qM{X:Cx}{pins:List (Addr×Obj)}{σ:St}{H:Hp}{s:Shared}{a:Addr}{y:V}{o:Option V}(I:Inv X pins σ H s)(g:DGet H a y o):s.TypeIs (.ref a) "dict":=by
 rcases g with⟨kvs,k,e,_,_⟩|⟨kvs,k,b,e,_,_,_⟩
 ·obtain⟨_,_,vs,_,dd⟩:=iG I.hok e
  exact dd.typeIs
 ·obtain⟨_,_,xs,_,dd⟩:=jA I.hok e
  exact dd.typeIs
def tDGet(td ty:TE):TE:=fun σ H Q=>td σ H fun x H1=>ty σ H1 fun y H2=>∃ a v,x= .ref a∧DGet H2 a y (some v)∧Q v H2
def tDIn(ty td:TE):TE:=fun σ H Q=>ty σ H fun y H1=>td σ H1 fun x H2=>∃ a o,x= .ref a∧DGet H2 a y o∧Q (.bl o.isSome) H2
def zF(ty td:TE):TE:=fun σ H Q=>ty σ H fun y H1=>td σ H1 fun x H2=>∃ a o,x= .ref a∧DGet H2 a y o∧Q (.bl (!o.isSome)) H2
def sDPut(td ty tv:TE):TS:=fun D σ H=>tv σ H fun v H1=>td σ H1 fun x H2=>ty σ H2 fun y H3=>∃ a H4,x= .ref a∧DPut H3 a y v H4∧D.nx σ H4
def sDAug(td ty tv:TE)(rd:V→V→Hp→VK→Prop):TS:=fun D σ H=>td σ H fun x H1=>ty σ H1 fun y H2=>∃ a v,x= .ref a∧DGet H2 a y (some v)∧
 tv σ H2 fun y2 H3=>rd v y2 H3 fun z H4=>∃ H5,DPut H4 a y z H5∧D.nx σ H5
section
variable{X:Cx}{o i e value:Expr}{pos pos' tpos:Pos}{td ty tv:TE}
theorem a4(hu:X.A.units+1<cLine)(ho:PE X o td)(hi:PE X i ty)(hs:NoSl i):PE X (.Subscript o i pos) (tDGet td ty):=by
 intro pins s σ H Q I h
 refine yO PySem.F.slot_dict_getitem.lookup hs (thn (ho pins s σ H _ I h) fun u s1 ⟨x,H1,I1,rx,q1⟩=>thn (hi pins s1 σ H1 _ I1 q1) fun iv s2 ⟨y,H2,I2,ry,a,v,ex,g,q2⟩=>?_)
 subst ex
 obtain rfl:u=Value.ref a:=rx
 exact⟨qM I2 g,oO hu I2 g ry fun w' s3 I3 rw'=>⟨v,H2,I3,rw',q2⟩⟩
theorem o6(hu:X.A.units+1<cLine)(hi:PE X i ty)(ho:PE X o td):PC X .In i o (tDIn ty td):=by
 intro pins s σ H Q I h
 refine thn (hi pins s σ H _ I h) fun iv s1 ⟨y,H1,I1,ry,q1⟩=>thn (ho pins s1 σ H1 _ I1 q1) fun u s2 ⟨x,H2,I2,rx,a,ov,ex,g,q2⟩=>?_
 subst ex
 obtain rfl:u=Value.ref a:=rx
 exact d_in hu I2 g ry fun s3 I3=>⟨.bl ov.isSome,H2,I3,rfl,q2⟩
theorem cG(hu:X.A.units+1<cLine)(hi:PE X i ty)(ho:PE X o td):PC X .NotIn i o (zF ty td):=by
 intro pins s σ H Q I h
 refine thn (hi pins s σ H _ I h) fun iv s1 ⟨y,H1,I1,ry,q1⟩=>thn (ho pins s1 σ H1 _ I1 q1) fun u s2 ⟨x,H2,I2,rx,a,ov,ex,g,q2⟩=>?_
 subst ex
 obtain rfl:u=Value.ref a:=rx
 exact zr hu I2 g ry fun s3 I3=>⟨.bl (!ov.isSome),H2,I3,rfl,q2⟩
theorem cA(hu:X.A.units+1<cLine)(ho:PE X o td)(hi:PE X i ty)(hv:PE X value tv)(hs:swapsWith value (some (.Subscript o i pos')) pos.line X.env=pure false):
  PS X (.Assign [.Subscript o i pos'] value pos) (sDPut td ty tv):=by
 intro pins s σ H D I h
 refine wpAny_Assign_Subscript (thn (hv pins s σ H _ I h) fun r s1 ⟨v,H1,I1,rv,q1⟩=>thn (ho pins s1 σ H1 _ I1 q1) fun u s2 ⟨x,H2,I2,rx,q2⟩=>thn (hi pins s2 σ H2 _ I2 q2) fun iv s3 ⟨y,H3,I3,ry,a,H4,ex,g,q3⟩=>?_) hs
 subst ex
 obtain rfl:u=Value.ref a:=rx
 exact nV hu I3 g ry rv fun s4 I4=>⟨σ,H4,I4,q3⟩
theorem zl{op:Operator}{rd:V→V→Hp→VK→Prop}(hu:X.A.units+1<cLine)(ho:PE X o td)(hi:PE X i ty)(hv:PE X value tv)(hop:InOp X op rd)
  (ha:∀ ov iv new,augStore i ov iv new=(do holding [new,ov,iv] (setItem ov iv new);release [new,ov,iv] [];pure .next)):PS X (.AugAssign (.Subscript o i tpos) op value pos) (sDAug td ty tv rd):=by
 intro pins s σ H D I h
 refine wpAny_AugAssign_SubscriptAny (thn (ho pins s σ H _ I h) fun u s1 ⟨x,H1,I1,rx,q1⟩=>thn (hi pins s1 σ H1 _ I1 q1) fun iv s2 ⟨y,H2,I2,ry,a,v,ex,g,q2⟩=>?_) ha
 subst ex
 obtain rfl:u=Value.ref a:=rx
 refine oO hu I2 g ry fun w' s3 I3 rw'=>thn (hv pins s3 σ H2 _ I3 q2) fun w2 s4 ⟨y2,H3,I4,ry2,q3⟩=>thn (hop pins s4 σ H3 v y2 w' w2 _ I4 rw' ry2 q3) fun w3 s5 ⟨z,H4,I5,rz,H5,g5,q4⟩=>?_
 exact nV hu I5 g5 ry rz fun s6 I6=>⟨σ,H5,I6,q4⟩
end
theorem qR{P:Program}{w:World}{H:Hp}(h:Heap)(hb:sysModules<h.objs.size):ObjOk P w H (h.push {cls:= .type "dict",data:= .dict #[] }) h.objs.size (.dK []):=
 ⟨zero_le _,beq_eq_false_iff_ne.mpr (Ne.symm (ne_of_lt hb)),[],.nil,Heap.DictOf.new h⟩
theorem ql{P:Program}{w:World}{H:Hp}(h:Heap)(hb:sysModules<h.objs.size):ObjOk P w H (h.push {cls:= .type "dict",data:= .dict #[] }) h.objs.size (.dT []):=
 ⟨zero_le _,beq_eq_false_iff_ne.mpr (Ne.symm (ne_of_lt hb)),[],.nil,_,#[],0,Heap.get?_push_size _ rfl,⟨rfl,rfl,rfl⟩,rfl,rfl,nodup_nil⟩
def AL:TE:=fun _ H Q=>∀ p,H p=none→Q (.ref p) (upd H p (.dK []))
def AF:TE:=fun _ H Q=>∀ p,H p=none→Q (.ref p) (upd H p (.dT []))
section
variable{X:Cx}{pos:Pos}
theorem df:PE X (.Dict [] [] pos) AL:=fun pins s σ H Q I h=>
 wpAny_Dict_empty ⟨.ref s.heap.objs.size,_,I.laid (a:=s.heap.objs.size) (o:= .dK []) (t':=s.toks) (fun _ _ q=>Heap.get?_push_of_some _ q) (le_refl _) (qR s.heap I.big),rfl,h _ (I.hok.fresh (le_refl _))⟩
theorem qt:PE X (.Dict [] [] pos) AF:=fun pins s σ H Q I h=>
 wpAny_Dict_empty ⟨.ref s.heap.objs.size,_,I.laid (a:=s.heap.objs.size) (o:= .dT []) (t':=s.toks) (fun _ _ q=>Heap.get?_push_of_some _ q) (le_refl _) (ql s.heap I.big),rfl,h _ (I.hok.fresh (le_refl _))⟩
end
def tI:List (TE×TE)→St→Hp→(List (V×V)→Hp→Prop)→Prop
 |[],_,H,Q=>Q [] H
 |(tk,tv)::r,σ,H,Q=>tk σ H fun x H1=>tv σ H1 fun y H2=>tI r σ H2 fun ps H3=>Q ((x,y)::ps) H3
abbrev VV:List (V×V)→List (Value×Value)→Prop:=Paired fun p q=>RelV p.1 q.1∧RelV p.2 q.2
def PPs(X:Cx)(pos:Pos)(keys:List (Option Expr))(values:List Expr)(trs:List (TE×TE)):Prop:=
 ∀(pins:List (Addr×Obj)) (s:Shared) (σ:St) (H:Hp) (Q:List (V×V)→Hp→Prop),Inv X pins σ H s→tI trs σ H Q→
  wpAny (model X.prog X.w) X.A (evalPairs (pairTrees keys values X.env pos)) (fun vs s'=>∃ ps H',Inv X pins σ H' s'∧VV ps vs∧Q ps H') X.xe s
theorem kl{X:Cx}{pos:Pos}:PPs X pos [] [] []:=fun pins s σ H Q I h=>pairTrees_nil_walk ⟨[],H,I,.nil,h⟩
theorem ik{X:Cx}{pos:Pos}{k v:Expr}{ks:List (Option Expr)}{vs:List Expr}{tk tv:TE}{trs:List (TE×TE)}(hk:PE X k tk)(hv:PE X v tv)(hr:PPs X pos ks vs trs):
  PPs X pos (some k::ks) (v::vs) ((tk,tv)::trs):=fun pins s σ H Q I h=>
 pairTrees_cons_walk (thn (hk pins s σ H _ I h) fun u s1 ⟨x,H1,I1,rx,q1⟩=>thn (hv pins s1 σ H1 _ I1 q1) fun w2 s2 ⟨y,H2,I2,ry,q2⟩=>
  thn (hr pins s2 σ H2 _ I2 q2) fun ws s3 ⟨ps,H3,I3,rel,q3⟩=>⟨(x,y)::ps,H3,I3,.cons ⟨rx,ry⟩ rel,q3⟩)
def cZ(kvs more:List (Key×V)):List (Key×V):=more.foldl (fun acc kv=>cC acc kv.1 kv.2) kvs
theorem KV.merge:∀{more:List (Key×V)} {rs:List (Key×Value)} {kvs:List (Key×V)} {vs:List (Key×Value)},KV more rs→KV kvs vs→KV (cZ kvs more) (merged vs rs):=by
 intro more rs kvs vs r
 unfold KV at r
 induction r generalizing kvs vs with
 |nil=>intro q;exact q
 | @cons p q ps qs h t ih=>
  intro r0
  have e:KV (cC kvs p.1 p.2) (stored vs q.1 q.2):=by
   have:=r0.put p.1 h.2
   rw[← h.1];exact this
  exact ih e
theorem gL:∀(more kvs:List (Key×V)),(cZ kvs more).length≤kvs.length+more.length
 |[],kvs=>by show kvs.length≤kvs.length+0;omega
 |p::r,kvs=>by
  have h1:=gL r (cC kvs p.1 p.2)
  have h2:=cP kvs p.1 p.2
  show(cZ (cC kvs p.1 p.2) r).length≤_
  rw[length_cons];omega
theorem kP{P:Program}{w:World}:∀{kvs:List (Key×V)} {ws:List (Value×Value)},VV (kvs.map fun kv=>(kV kv.1,kv.2)) ws→∃ rs,Carries (a7 P w) ws rs∧KV kvs rs
 |[],_,r=>by rw[map_nil]at r;cases r;exact⟨[],True.intro,.nil⟩
 |p::kvs,_,r=>by
  rw[map_cons]at r
  cases r with
  | @cons a b as bs h t=>
   obtain⟨rs,c,q⟩:=kP (P:=P) (w:=w) t
   obtain⟨b1,b2⟩:=b
   exact⟨(p.1,b2)::rs,⟨me h.1,rfl,c⟩,.cons ⟨rfl,h.2⟩ q⟩
def tDisp(trs:List (TE×TE)):TE:=fun σ H Q=>∀ p,H p=none→tI trs σ (upd H p (.dK [])) fun ps H2=>H2 p=some (.dK [])∧∃ kvs:List (Key×V),ps=kvs.map (fun kv=>(kV kv.1,kv.2))∧kvs.length≤15∧Q (.ref p) (upd H2 p (.dK (cZ [] kvs)))
theorem kG{X:Cx}{pos:Pos}{keys:List (Option Expr)}{values:List Expr}{trs:List (TE×TE)}(h:PPs X pos keys values trs)(hall:keys.all (·.isSome)=true)(hl:keys.length=values.length)(h0:keys≠[])
  (h15:keys.length≤15):PE X (.Dict keys values pos) (tDisp trs):=by
 intro pins s σ H Q I q
 have hn:=I.hok.fresh (le_refl s.heap.objs.size)
 have I1:=I.laid (a:=s.heap.objs.size) (o:= .dK []) (h':=s.heap.push {cls:= .type "dict",data:= .dict #[] }) (t':=s.toks) (fun _ _ q=>Heap.get?_push_of_some _ q) (le_refl _) (qR s.heap I.big)
 refine wpAny_Dict_walk (knd:=a7 X.prog X.w) hall hl h0 h15 (thn (h pins _ σ _ _ I1 (q _ hn)) fun ws s2 ⟨ps,H2,I2,rel,e,kvs,ep,lk,q2⟩=>?_)
 subst ep
 obtain⟨rs,c,rk⟩:=kP (P:=X.prog) (w:=X.w) rel
 obtain⟨z,hd,vs0,r0,dd⟩:=nH I2.hok e
 cases r0
 refine⟨rs,c,dd,fun h' dd' hs=>⟨.ref s.heap.objs.size,_,?_,rfl,q2⟩⟩
 have hz:(cZ [] kvs).length≤sizeLine:=by
  have h1:=gL kvs []
  rw[List.length_nil]at h1
  rw[sizeLine_eq];omega
 have he:∃ q,h'.get? s.heap.objs.size=some q:=let⟨q,_,_,hq,_⟩:=dd';⟨q,hq⟩
 exact eN I2 (by rw[e];exact True.intro) hs he (tJ hz hd (rk.merge .nil) dd')
structure M1(X:Cx)(o:Expr)(m:Str)(apos:Pos)(e:Expr)(cpos:Pos):Prop where
 base:attributeBase o m X.env (eval o X.env)=eval o X.env
 few:((backTo cpos (starEach [e] X.env)).all (fun x=> !x.1)&&(backToKw cpos (keywordEach [] X.env)).all (fun x=>x.1.isSome)
  &&decide (([e]:List Expr).length+([]:List Keyword).length+(if([]:List Keyword).isEmpty then 0 else 1)<30))=true
 line:(apos.endLine==cpos.line)=true
 trees:backTo cpos (starEach [e] X.env)=[(false,eval e X.env)]
structure M2(X:Cx)(o:Expr)(m:Str)(apos:Pos)(e f:Expr)(cpos:Pos):Prop where
 base:attributeBase o m X.env (eval o X.env)=eval o X.env
 few:((backTo cpos (starEach [e,f] X.env)).all (fun x=> !x.1)&&(backToKw cpos (keywordEach [] X.env)).all (fun x=>x.1.isSome)
  &&decide (([e,f]:List Expr).length+([]:List Keyword).length+(if([]:List Keyword).isEmpty then 0 else 1)<30))=true
 line:(apos.endLine==cpos.line)=true
 trees:backTo cpos (starEach [e,f] X.env)=[(false,eval e X.env),(false,eval f X.env)]
def IsD(H:Hp)(a:Addr):Prop:=(∃ kvs,Rd H a (.dK kvs))∨∃ kvs,Rd H a (.dT kvs)
theorem pP{X:Cx}{pins:List (Addr×Obj)}{σ:St}{H:Hp}{s:Shared}{a:Addr}(I:Inv X pins σ H s)(d:IsD H a):
  s.TypeIs (.ref a) "dict"∧(∀ b,Value.ref a= .ref b→∃ ob,s.heap.get? b=some ob∧ob.dict=none)∧(a==sysModules)=false:=by
 rcases d with⟨kvs,e⟩|⟨kvs,e⟩
 ·obtain⟨_,hd,vs,_,dd⟩:=iG I.hok e
  refine⟨dd.typeIs,fun b q=>?_,hd⟩
  cases q
  obtain⟨ob,_,_,h1,h2,_⟩:=dd
  exact⟨ob,h1,h2.2.1⟩
 ·obtain⟨_,hd,xs,_,dd⟩:=jA I.hok e
  refine⟨dd.typeIs,fun b q=>?_,hd⟩
  cases q
  obtain⟨ob,_,_,h1,h2,_⟩:=dd
  exact⟨ob,h1,h2.2.1⟩
section
variable{X:Cx}{pins:List (Addr×Obj)}{σ:St}{H:Hp}{s:Shared}{a:Addr}{y d:V}{u r:Value}{o:Option V}{A:Around}{E:Value→Shared→Prop}
theorem Ax{Q:Value→Shared→Prop}(hu:A.units+1<cLine)(I:Inv X pins σ H s)(g:DGet H a y o)(ry:RelV y u)(rd:RelV d r)(h:∀ w' s',Inv X pins σ H s'→RelV (o.getD d) w'→Q w' s'):
  wpAny (model X.prog X.w) A (call (.builtin "dict.get") [.ref a,u,r]) Q E s:=by
 rcases g with⟨kvs,k,e,ey,l⟩|⟨kvs,k,b,e,ey,eb,l⟩
 ·subst ey
  obtain⟨z,hd,vs,rel,dd⟩:=iG I.hok e
  refine call_meetsIn PySem.F.slot_dict_get dd.typeIs PySem.F.entry_dict_get (PySem.F.args_dict_get_3 _ _ _) (meets_dict_get_default (a7 X.prog X.w) a (me ry) hd r) ⟨_,dd.mapOf,h _ _ (I.tok _) ?_⟩
  rw[l]
  exact(rel.val k).getD rd
 ·subst ey
  cases (show u=Value.ref b from ry)
  obtain⟨z,hd,xs,rel,dd⟩:=jA I.hok e
  refine call_meetsIn PySem.F.slot_dict_get dd.typeIs PySem.F.entry_dict_get (PySem.F.args_dict_get_3 _ _ _) (meetsH_dict_get_default (tupleKind (a7 X.prog X.w)) a b hd r) ⟨tupleKind_room_in1 hu,k,xs,fT I.hok eb,dd,h _ _ (I.tok _) ?_⟩
  rw[l]
  exact(rel.val k).getD rd
end
def Au(td ty tx:TE):TE:=fun σ H Q=>td σ H fun x H1=>∃ a,x= .ref a∧IsD H1 a∧ty σ H1 fun y H2=>tx σ H2 fun z H3=>∃ o,DGet H3 a y o∧Q (o.getD z) H3
section
variable{X:Cx}{o e f:Expr}{apos cpos:Pos}{td ty tx:TE}
theorem qK(hu:X.A.units+1<cLine)(ho:PE X o td)(he:PE X e ty)(hf:PE X f tx)(m:M2 X o "get" apos e f cpos):PE X (.Call (.Attribute o "get" apos) [e,f] [] cpos) (Au td ty tx):=by
 intro pins s σ H Q I h
 refine wpAny_Call_method m.base m.few m.line PySem.F.plainAttrs_dict PySem.F.slot_dict_get PySem.F.type_dict_get (thn (ho pins s σ H _ I h) fun u s1 ⟨x,H1,I1,rx,a,ex,d,q1⟩=>?_)
 subst ex
 obtain rfl:u=Value.ref a:=rx
 obtain⟨t1,t2,_⟩:=pP I1 d
 refine⟨t1,t2,?_⟩
 rw[m.trees]
 refine Calls.callWith_builtin rfl (Calls.evalArgs_plain (Calls.spliced_cons (thn (he pins s1 σ H1 _ I1 q1) fun iv s2 ⟨y,H2,I2,ry,q2⟩=>
  Calls.spliced_cons (thn (hf pins s2 σ H2 _ I2 q2) fun fv s3 ⟨z,H3,I3,rz,ov,g,q3⟩=>Calls.spliced_nil ?_))))
 exact Ax hu I3 g ry rz fun w' s4 I4 rw'=>⟨_,H3,I4,rw',q3⟩
end
section
variable{X:Cx}{pins:List (Addr×Obj)}{σ:St}{H:Hp}{s:Shared}{h':Heap}
theorem Inv.turnedL{t':Nat}{ch:List Addr}(I:Inv X pins σ H s)(k:∀ b o,b∉ch→s.heap.get? b=some o→h'.get? b=some o)(hf:∀ b∈ch,jZ X pins H b):Inv X pins σ H {s with heap:=h',toks:=t' }:=by
 have nit:∀ b u,H b=some u→b∉ch:=fun b u e z=>by
  have q:=(hf b z).1
  rw[q]at e;cases e
 refine I.step (g':=s.gens) (d':=s.drawn) (ch:=ch) (fun b hb=>⟨(hf b hb).2.2.2.1,(hf b hb).2.1,(hf b hb).2.2.2.2.1,(hf b hb).2.2.2.2.2⟩) (fun b o _ _ hc e _=>k b o hc e) (fun b o _ _ hc e _=>⟨o.slots,k b o hc e⟩)
  (fun _ _ _ _ n=>n) (fun b o hc e=>⟨o,k b o hc e⟩) (fun _ _ e=>e) (fun _ _ _ e=>e) (fun b ps e=>⟨#[],by rw[e];simp⟩) (fun m hm=>?_) (fun b u e=>?_) I.bare
 ·obtain⟨o,es,ep,ho,r⟩:=hm
  exact⟨o,es,ep,k _ o (fun z=>(hf _ z).2.1 rfl) ho,r⟩
 ·refine(I.hok b u e).stay (fun c v hc q=>k c v ?_ q) (fun _ q=>q) fun _ _ q=>q
  rcases hc with z|z
  ·rw[z];exact nit b u e
  ·exact nit c _ z
theorem Inv.turnedNew{t':Nat}{ch:List Addr}{T:Addr}{ob:HO}(I:Inv X pins σ H s)(k:∀ b o,b∉ch→s.heap.get? b=some o→h'.get? b=some o)(hf:∀ b∈ch,jZ X pins H b)(hT:s.heap.objs.size≤T)
  (new:ObjOk X.prog X.w (upd H T ob) h' T ob):Inv X pins σ (upd H T ob) {s with heap:=h',toks:=t' }:=by
 have hn:H T=none:=I.hok.fresh hT
 have nit:∀ b u,H b=some u→b∉ch:=fun b u e z=>by
  have q:=(hf b z).1
  rw[q]at e;cases e
 refine I.step (g':=s.gens) (d':=s.drawn) (ch:=ch) (fun b hb=>⟨(hf b hb).2.2.2.1,(hf b hb).2.1,(hf b hb).2.2.2.2.1,(hf b hb).2.2.2.2.2⟩) (fun b o _ _ hc e _=>k b o hc e) (fun b o _ _ hc e _=>⟨o.slots,k b o hc e⟩)
  (fun b o _ e n=>?_) (fun b o hc e=>⟨o,k b o hc e⟩) (fun b xs e=>?_) (fun b o u e=>?_) (fun b ps e=>⟨#[],?_⟩) (fun m hm=>?_) (fun b u e=>?_) I.bare
 ·rw[ao (ne_of_lt (lt_of_lt_of_le (Heap.lt_size e) hT))];exact n
 ·rw[ao (aL e hn)];exact e
 ·rw[ao (aL e hn)];exact e
 ·rw[ao (aL e hn),e];simp
 ·obtain⟨o,es,ep,ho,r⟩:=hm
  exact⟨o,es,ep,k _ o (fun z=>(hf _ z).2.1 rfl) ho,r⟩
 ·by_cases hb:b=T
  ·subst hb
   rw[ah]at e
   cases e
   exact new
  ·rw[ao hb]at e
   refine(I.hok b u e).stay (fun c v hc q=>k c v ?_ q) (fun c q=>by rw[ao (aL q hn)];exact q) fun c xs q=>by rw[ao (aL q hn)];exact q
   rcases hc with z|z
   ·rw[z];exact nit b u e
   ·exact nit c _ z
theorem Inv.lock{d:Addr}{u:HO}(I:Inv X pins σ H s)(h:H d=some u)(mu:Mut (some u)):∃ od,Inv X pins σ (upd H d (.frz od u)) s:=by
 have x:=I.hok d u h
 have ex:∃ od,s.heap.get? d=some od:=by
  cases u with
  |lst xs=>obtain⟨_,_,_,_,e⟩:=x;exact⟨_,e⟩
  |dK kvs=>obtain⟨_,_,_,_,o,_,_,e,_⟩:=x;exact⟨o,e⟩
  |dT kvs=>obtain⟨_,_,_,_,o,_,_,e,_⟩:=x;exact⟨o,e⟩
  |set S n=>obtain⟨o,_,_,_,e,_⟩:=x;exact⟨o,e⟩
  |ins C dx fs=>obtain⟨_,_,_,e,_⟩:=x;exact⟨_,e⟩
  |ext φ=>obtain⟨_,⟨_,e⟩,_⟩:=x;exact⟨_,e⟩
  |_=>exact False.elim mu
 obtain⟨od,e⟩:=ex
 have new:ObjOk X.prog X.w (upd H d (.frz od u)) s.heap d (.frz od u):=by
  refine⟨e,x.stay (fun b v _ q=>q) (fun b q=>?_) fun b xs q=>?_⟩
  ·rw[ao (fun z=>by rw[z,h]at q;cases q;exact mu)];exact q
  ·rw[ao (fun z=>by rw[z,h]at q;cases q;exact mu)];exact q
 exact⟨od,I.write (x:=d) (e:=d) (t':=s.toks) (h':=s.heap) (by rw[h];exact mu) (.inl rfl) (fun b v _ q=>q) ⟨od,e⟩ new⟩
theorem Inv.nofrz{d:Addr}{u:HO}(I:Inv X pins σ H s)(h:H d=some u)(mu:Mut (some u)):∀ o' u',X.H_0 d≠some (.frz o' u'):=fun o' u' e=>by
 have q:=I.base.frzs d o' u' e
 rw[h]at q
 cases q
 exact mu
theorem Inv.unlock{d:Addr}{od:Obj}{u:HO}(I:Inv X pins σ H s)(h:H d=some (.frz od u))(hn:∀ o' u',X.H_0 d≠some (.frz o' u')):Inv X pins σ (upd H d u) s:=by
 have neH:∀ b o,H b=some o→(∀ o' u',o≠ .frz o' u')→b≠d:=fun b o e hne z=>by
  rw[z,h]at e
  cases e
  exact hne _ _ rfl
 have neN:∀ b,H b=none→b≠d:=fun b e z=>by rw[z,h]at e;cases e
 refine⟨I.ok,I.os,I.bare,⟨I.base.keep,I.base.slot,fun b o e n hx=>?_,I.base.there,fun b xs e=>?_,fun b o x e=>?_,fun b ps e=>?_⟩,I.loc,I.cell,?_,fun x c e=>?_,fun p hp=>?_,fun b o e=>?_,I.len⟩
 ·rw[ao (neN b (I.base.free b o e n hx))];exact I.base.free b o e n hx
 ·have q:=I.base.tups b xs e
  rw[ao (neH b _ q (fun _ _ z=>nomatch z))];exact q
 ·have q:=I.base.frzs b o x e
  rw[ao (fun z=>by rw[z]at e;exact hn _ _ e)];exact q
 ·obtain⟨m,q⟩:=I.base.tbls b ps e
  exact⟨m,by rw[ao (neH b _ q (fun _ _ z=>nomatch z))];exact q⟩
 ·rw[ao (neN _ I.free)];exact I.free
 ·rw[ao (neN c (I.freeC x c e))];exact I.freeC x c e
 ·obtain⟨e,n,r⟩:=I.pin p hp
  exact⟨e,by rw[ao (neN _ n)];exact n,r⟩
 ·by_cases hb:b=d
  ·rw[hb,ah]at e
   cases e
   rw[hb]
   obtain⟨_,x⟩:=I.hok d _ h
   exact x.stay (fun c v _ q=>q) (fun c q=>by rw[ao (neH c _ q (fun _ _ z=>nomatch z))];exact q) fun c xs q=>by rw[ao (neH c _ q (fun _ _ z=>nomatch z))];exact q
  ·rw[ao hb]at e
   exact(I.hok b o e).stay (fun c v _ q=>q) (fun c q=>by rw[ao (neH c _ q (fun _ _ z=>nomatch z))];exact q) fun c xs q=>by rw[ao (neH c _ q (fun _ _ z=>nomatch z))];exact q
end
def tLock(t:TS):TS:=fun D σ H=>∃ d u,H d=some u∧Mut (some u)∧∀ od,t ⟨fun σ' H'=>H' d=some (.frz od u)∧D.nx σ' (upd H' d u),fun v H'=>H' d=some (.frz od u)∧D.rt v (upd H' d u),fun σ' H'=>H' d=some (.frz od u)∧D.bk σ' (upd H' d u),fun σ' H'=>H' d=some (.frz od u)∧D.ct σ' (upd H' d u)⟩ σ (upd H d (.frz od u))
def Aa(t:TE):TE:=fun σ H Q=>∃ d u,H d=some u∧Mut (some u)∧∀ od,t σ (upd H d (.frz od u)) fun v H'=>H' d=some (.frz od u)∧Q v (upd H' d u)
section
variable{X:Cx}
theorem uU{st:Stmt}{t:TS}(h:PS X st t):PS X st (tLock t):=by
 intro pins s σ H D I hw
 obtain⟨d,u,hd,mu,hw⟩:=hw
 obtain⟨od,I1⟩:=I.lock hd mu
 refine thn (h pins s σ _ _ I1 (hw od)) fun f s1 q=>?_
 cases f with
 |next=>obtain⟨σ',H',I2,e,q⟩:=q;exact⟨σ',_,I2.unlock e (I.nofrz hd mu),q⟩
 |brk=>obtain⟨σ',H',I2,e,q⟩:=q;exact⟨σ',_,I2.unlock e (I.nofrz hd mu),q⟩
 |cont=>obtain⟨σ',H',I2,e,q⟩:=q;exact⟨σ',_,I2.unlock e (I.nofrz hd mu),q⟩
 |ret v=>obtain⟨x,σ',H',I2,r,e,q⟩:=q;exact⟨x,σ',_,I2.unlock e (I.nofrz hd mu),r,q⟩
theorem pS{e:Expr}{t:TE}(h:PE X e t):PE X e (Aa t):=by
 intro pins s σ H Q I hw
 obtain⟨d,u,hd,mu,hw⟩:=hw
 obtain⟨od,I1⟩:=I.lock hd mu
 refine thn (h pins s σ _ _ I1 (hw od)) fun v s1 ⟨x,H1,I2,r,e2,q⟩=>?_
 exact⟨x,_,I2.unlock e2 (I.nofrz hd mu),r,q⟩
theorem uk{tg:Expr}{pins:List (Addr×Obj)}{σ:St}{H:Hp}{s:Shared}{R:It→Hp→Prop}{J:It}{tn:Nat→Heap→Prop}{tk:Nat}(I:Inv X pins σ H s)(o:Obj)
  (T:pL X.prog X.w X.K tg J [s.heap.objs.size] s.heap.objs.size tn) (st:tn 0 (s.heap.push o)) (q:R J H):PIE X pins σ tg R (.ref s.heap.objs.size) {s with heap:=s.heap.push o,toks:=tk }:=by
 refine⟨s.heap.objs.size,[s.heap.objs.size],tn,J,H,rfl,I.kept fun b ob e=>Heap.get?_push_of_some _ e,T,st,fun b hb=>?_,q⟩
 have e:b=s.heap.objs.size:=by simpa using hb
 subst e
 exact I.fpOk (le_refl _) (I.hok.fresh (le_refl _))
end
def Itc(lo c:Int)(n:Nat):It:=⟨fun i _=>i<n,fun i H x H'=>H'=H∧x= .int (lo+(i:Nat)*c),fun i _=>n≤i⟩
theorem qx{P:Program}{w:World}{K:Frag}{tg:Expr}(it:Addr)(lo c:Int)(n:Nat):pL P w K tg (Itc lo c n) [it] it (fun i h=>IsRangeIter h it (lo+(i:Nat)*c) ((n:Int) - (i:Nat)) c) where
 mem:=by simp
 obj:=fun i h st b hb=>by
  have e:b=it:=by simpa using hb
  subst e
  exact⟨_,st,fun v z=>nomatch z⟩
 keep:=fun i h h' st k=>k it (by simp) _ st
 item:=by
  intro X hP hw hK hc i pins s σ H E I hf st hg
  subst hP hw hK
  obtain⟨f0,f1,f2,f3,f4,f5⟩:=hf it (by simp)
  have W:=Walks.range (prog:=X.prog) (w:=X.w) (I.ok.hd hc) it lo c n
  refine W.item i s _ _ hg st fun v h' tk hv st' kk=>?_
  obtain⟨t,rfl⟩:=hv
  have I1:Inv X pins σ H {s with heap:=h',toks:=tk }:=I.turned (fun b o hb e=>kk b o (by simpa using hb) e) f0 f1 f3 f4 f5
  exact⟨_,rfl,oR (s:={s with heap:=h',toks:=tk }) (n:="range_iterator") st' rfl rfl (by decide) ⟨.int (lo+(i:Nat)*c),H,I1,⟨t,rfl⟩,⟨rfl,rfl⟩,st',fun b hb=>(hf b hb).1⟩⟩
 done:=by
  intro X hP hw hK hc i pins s σ H E I hf st hg
  subst hP hw hK
  obtain⟨f0,f1,f2,f3,f4,f5⟩:=hf it (by simp)
  exact wpAny_pyNext_range_end (I.ok.hd hc) st (by have:n≤i:=hg;omega) fun h' eb=>⟨rfl,I.turned (t':=s.toks) (fun b o hb e=>eb b o hb e) f0 f1 f3 f4 f5⟩
 self:=fun A i s Q E st h=>wpAny_pyIter_rangeiter st h
def RgC(i j c:Int)(n:Nat):Prop:=c≠0∧c.natAbs<1073741824∧Builtin.Range.small i j c=true∧Builtin.Range.rangeSize i j c=n
theorem RgC.neg{i j:Int}(ha: -(2 ^ 62)≤i)(ha':i<2 ^ 62)(hb: -(2 ^ 62)≤j)(hb':j<2 ^ 62):RgC i j (-1) (i - j).toNat:=
 ⟨by decide,by decide,PySem.W.small_down ha ha' hb hb',PySem.W.rangeSize_downNat i j⟩
def iRng3(ta:TA):TI:=fun σ H R=>ta σ H fun vs H1=>∃(i j c:Int) (n:Nat),vs=[.int i,.int j,.int c]∧RgC i j c n∧R (Itc i c n) H1
section
variable{X:Cx}{tg:Expr}
theorem wK{a b c:Expr}{ta:TA}{p pos:Pos}(hg:Gl X "range")(hm:X.mg "range"=none)(ha:PA X [a,b,c] ta)
  (hs:starEach [a,b,c] X.env=(false,eval a X.env)::starEach [b,c] X.env:=by rfl) (hpl:(backTo pos (starEach [b,c] X.env)).any (·.1)=false:=by rfl):
  PI X tg (.Call (.Name "range" p) [a,b,c] [] pos) (iRng3 ta):=by
 intro pins s σ H R I h
 refine Call_ (ly I hg hm boot_range (PyProof.Rows.callWith_type1 (thn (ha pos pins s σ H _ I h) fun us s1 ⟨vs,H1,I1,r1,q1⟩=>?_) hs hpl))
 obtain⟨i,j,k,n,e,⟨c0,c1,c2,c3⟩,q⟩:=q1
 subst e
 cases r1 with
 |cons r rr=>
  cases rr with
  |cons r' rr=>
   cases rr with
   |cons r'' rr=>
    cases rr
    obtain⟨t,rfl⟩:=r
    obtain⟨t',rfl⟩:=r'
    obtain⟨t'',rfl⟩:=r''
    refine call_range_3 c0 ?_ (.inl (PyProof.noPylong_small c1))
    refine wpAny_pyIter_range (IsRange.new ..) c2 ?_
    have I2:Inv X pins σ H1 {s1 with heap:=s1.heap.push {cls:= .type "range",data:= .fields #[.int i t,.int j t',.int k t''] } }:=I1.kept (t':=s1.toks) fun b o e=>Heap.get?_push_of_some _ e
    refine uk (tk:=s1.toks) I2 _ (qx _ i k n) ?_ q
    have e1:i+((0:Nat):Int)*k=i:=by simp
    have e2:(n:Int) - ((0:Nat):Int)=Builtin.Range.rangeSize i j k:=by rw[c3];simp
    show IsRangeIter _ _ (i+((0:Nat):Int)*k) ((n:Int) - ((0:Nat):Int)) k
    rw[e1,e2]
    exact Heap.get?_push_size _ rfl
end
section
variable{prog:Program}{w:World}{A:Around}{E:Value→Shared→Prop}{s:Shared}
theorem oC{d:Addr}{o:Obj}{es:Array DictEntry}{ep:Nat}{Q:Value→Shared→Prop}(hd:(d==sysModules)=false)(ho:s.heap.get? d=some o)(hc:o.ExactDict)(hdat:o.data= .dict es ep)
  (hQ:Q (.ref s.heap.objs.size) {s with heap:=s.heap.push {cls:= .type "dict_keyiterator",data:= .fields #[.ref d,.int 0 0,.int es.size 0,.int ep 0] } }):
  wpAny (model prog w) A (pyIter (.ref d)) Q E s:=by
 have hT:s.TypeIs (.ref d) "dict":=⟨o,ho,hc.1⟩
 refine wpAny_pyIter_slot hT F.slot_dict_iter (wpAny_call_entry F.slot_dict_iter hT F.entry_dict_iter ?_ (F.args_dict_iter_1 _))
 unfold Builtin.«dict.__iter__»
 refine wpAny_bind ?_
 unfold Builtin.Dict.dictSlotNone
 refine wpAny_bind (wpAny_notOrdered_dict hT ?_)
 show wpAny _ _ (pure (Value.ref d)) _ _ s
 refine wpAny_pure ?_
 show wpAny _ _ (Builtin.Dict.showsAll d >>= _) _ _ s
 unfold Builtin.Dict.showsAll
 rw[if_neg (by rw[hd];exact Bool.false_ne_true)]
 refine wpAny_bind (wpAny_pure ?_)
 refine wpAny_bind (wpAny_dictEntries ho hdat ?_)
 refine wpAny_bind (wpAny_dictEpoch ho hdat ?_)
 refine wpAny_bind (wpAny_newObj_type (wpAny_pure ⟨_,rfl,"dict_keyiterator",_,⟨_,Heap.get?_push_size _ rfl,rfl⟩,F.slot_dict_keyiterator_next.lookup,?_⟩))
 simpa [rawInt]using hQ
theorem ng{it d:Addr}{i n ep:Nat}{od:Obj}{es:Array DictEntry}{en:DictEntry}{Q:Option Value→Shared→Prop}(hit:s.heap.IsKeyIter it d i n ep)(hod:s.heap.get? d=some od)(hdd:od.data= .dict es ep)
  (hsz:es.size=n) (hx:es[i]?=some en) (hQ:∀ h',h'.IsKeyIter it d (i+1) n ep→Heap.SameBut it s.heap h'→Q (some en.key) {s with heap:=h' }):wpAny (model prog w) A (pyNext (.ref it)) Q E s:=by
 obtain⟨o,ho,hc,hd⟩:=id hit
 unfold pyNext
 refine wpAny_bind (wpAny_attempt (wpAny_callSpecial?_slot (name:=Str.ofString "__next__") hit.typeIs F.slot_dict_keyiterator_next
  (wpAny_call_entry F.slot_dict_keyiterator_next hit.typeIs F.entry_dict_keyiterator_next ?_ (F.args_dict_keyiterator_next_1 _))))
 refine wpAny_bind (wpAny_pure ?_)
 refine wpAny_bind ?_
 refine wpAny_bind ?_
 first|refine wpAny_bind (wpAny_typeNameOfWhole_keyiter hit.typeIs (wpAny_pure ?_))|refine wpAny_bind (wpAny_typeNameOf_keyiter hit.typeIs (wpAny_pure ?_))
 refine wpAny_bind (wpAny_fieldsOf ho hd ?_)
 have hown:Builtin.Dict_items.ownsTuple "dict_keyiterator"=false:=by decide
 simp only[hown,Bool.false_eq_true,if_false]
 show wpAny _ _ (if(Value.ref d==Value.none)=true then _ else _) _ _ s
 rw[if_neg (show ¬((Value.ref d==Value.none)=true)from Bool.false_ne_true)]
 refine wpAny_bind (wpAny_pure ?_)
 refine wpAny_bind (wpAny_dictEntries hod hdd ?_)
 rw[if_neg (by rw[hsz];simp)]
 refine wpAny_bind (wpAny_pure ?_)
 refine wpAny_bind (wpAny_dictEpoch hod hdd ?_)
 rw[if_neg (by simp)]
 refine wpAny_pure ?_
 obtain⟨hlt',hen⟩:=Array.getElem?_eq_some_iff.mp hx
 simp only[show ¬((i:Int)<0)from by omega,if_false,Int.toNat_natCast,Array.getElem?_eq_getElem hlt']
 refine wpAny_bind ?_
 first|refine wpAny_bind (wpAny_typeNameOfWhole_keyiter hit.typeIs (wpAny_pure ?_))|refine wpAny_bind (wpAny_typeNameOf_keyiter hit.typeIs (wpAny_pure ?_))
 refine wpAny_bind (wpAny_isOneOf_keyiter hit.typeIs ?_)
 show wpAny _ _ (setField (.ref it) 1 (rawInt ((i:Int)+1)) >>= _) _ _ s
 refine wpAny_bind (wpAny_setField ho hd (by simp) ?_)
 have hit':(s.heap.update it (Obj.mapFields (·.setIfInBounds 1 (rawInt ((i:Int)+1))))).IsKeyIter it d (i+1) n ep:=
  ⟨_,Heap.get?_update_self _ ho (Obj.isFreed_of_fields (Obj.data_mapFields hd _)),(Obj.cls_mapFields ..).trans hc,by rw[Obj.data_mapFields hd];simp[rawInt]⟩
 refine wpAny_bind (wpAny_holding ?_)
 refine wpAny_bind (wpAny_isOneOf_keyiter (s:={s with heap:=s.heap.update it (Obj.mapFields (·.setIfInBounds 1 (rawInt ((i:Int)+1)))) }) hit'.typeIs ?_)
 show wpAny _ _ (pure es[i].key) _ _ _
 rw[hen]
 exact wpAny_pure (wpAny_pure ⟨_,rfl,wpAny_pure (hQ _ hit' (Heap.SameBut.update ..))⟩)
theorem iy{it d:Addr}{i n ep:Nat}{od:Obj}{es:Array DictEntry}{Q:Option Value→Shared→Prop}(hh:A.handled=none)(hit:s.heap.IsKeyIter it d i n ep)(hod:s.heap.get? d=some od)(hdd:od.data= .dict es ep)
  (hsz:es.size=n) (hge:n≤i) (hQ:∀ h',Heap.ExtBut it s.heap h'→Q none {s with heap:=h' }):wpAny (model prog w) A (pyNext (.ref it)) Q E s:=by
 obtain⟨o,ho,hc,hd⟩:=id hit
 unfold pyNext
 refine wpAny_bind (wpAny_attempt (wpAny_callSpecial?_slot (name:=Str.ofString "__next__") hit.typeIs F.slot_dict_keyiterator_next
  (wpAny_call_entry F.slot_dict_keyiterator_next hit.typeIs F.entry_dict_keyiterator_next ?_ (F.args_dict_keyiterator_next_1 _))))
 refine wpAny_bind (wpAny_pure ?_)
 refine wpAny_bind ?_
 refine wpAny_bind ?_
 first|refine wpAny_bind (wpAny_typeNameOfWhole_keyiter hit.typeIs (wpAny_pure ?_))|refine wpAny_bind (wpAny_typeNameOf_keyiter hit.typeIs (wpAny_pure ?_))
 refine wpAny_bind (wpAny_fieldsOf ho hd ?_)
 have hown:Builtin.Dict_items.ownsTuple "dict_keyiterator"=false:=by decide
 simp only[hown,Bool.false_eq_true,if_false]
 show wpAny _ _ (if(Value.ref d==Value.none)=true then _ else _) _ _ s
 rw[if_neg (show ¬((Value.ref d==Value.none)=true)from Bool.false_ne_true)]
 refine wpAny_bind (wpAny_pure ?_)
 refine wpAny_bind (wpAny_dictEntries hod hdd ?_)
 rw[if_neg (by rw[hsz];simp)]
 refine wpAny_bind (wpAny_pure ?_)
 refine wpAny_bind (wpAny_dictEpoch hod hdd ?_)
 rw[if_neg (by simp)]
 refine wpAny_pure ?_
 have hge':es.size≤i:=by rw[hsz];exact hge
 simp only[show ¬((i:Int)<0)from by omega,if_false,Int.toNat_natCast,Array.getElem?_eq_none hge']
 refine wpAny_bind ?_
 first|refine wpAny_bind (wpAny_typeNameOfWhole_keyiter hit.typeIs (wpAny_pure ?_))|refine wpAny_bind (wpAny_typeNameOf_keyiter hit.typeIs (wpAny_pure ?_))
 show wpAny _ _ (setField (.ref it) 0 .none >>= _) _ _ s
 refine wpAny_bind (wpAny_setField ho hd (by simp) ?_)
 show wpAny _ _ (newExc (.type "StopIteration") [] >>= _) _ _ _
 refine wpAny_bind ?_
 simp only[newExc,newTuple]
 refine wpAny_bind (wpAny_newObj_type ?_ (by size_fits))
 refine wpAny_bind (m:=firstArgMember _ _) (wpAny_of_eq (a:=Value.none) (by first|rfl|(simp only[firstArgMember];rfl)) ?_)
 refine wpAny_newObj_type ?_ (by size_fits)
 simp only[raiseNew]
 refine wpAny_bind (wpAny_handled ?_)
 rw[show A.in1.handled=none from hh]
 refine wpAny_bind (wpAny_pure (wpAny_throw ?_))
 refine wpAny_bind (wpAny_isInstance (T:="StopIteration") (b:=true) ⟨_,Heap.get?_push_size _ rfl,rfl⟩ isSubtype_stop ?_)
 exact wpAny_pure (hQ _ (((Heap.SameBut.update ..).extBut.push _).push _))
end
theorem yC{κ:Type}{kvs:List (κ×V)}{vs:List (κ×Value)}(h:KV kvs vs):∀{i:Nat} {k:κ} {v:V},kvs[i]?=some (k,v)→∃ u,vs[i]?=some (k,u)∧RelV v u:=by
 unfold KV at h
 induction h with
 |nil=>intro i k v e;simp at e
 | @cons a b l₁ l₂ r t ih=>
  intro i k v e
  cases i with
  |zero=>
   simp only[List.getElem?_cons_zero,Option.some.injEq]at e
   subst e
   refine⟨b.2,?_,r.2⟩
   simp only[List.getElem?_cons_zero]
   exact congrArg some (Prod.ext r.1.symm rfl)
  |succ j=>
   simp only[List.getElem?_cons_succ]at e ⊢
   exact ih e
theorem mK{α β:Type}{G:α→β→Prop}{l₁:List α}{l₂:List β}(h:Paired G l₁ l₂):∀{i:Nat} {a:α},l₁[i]?=some a→∃ b,l₂[i]?=some b∧G a b:=by
 induction h with
 |nil=>intro i a e;simp at e
 | @cons a b l₁ l₂ r t ih=>
  intro i a' e
  cases i with
  |zero=>
   simp only[List.getElem?_cons_zero,Option.some.injEq]at e
   subst e
   exact⟨b,rfl,r⟩
  |succ j=>
   simp only[List.getElem?_cons_succ]at e ⊢
   exact ih e
theorem xC{k:Key}{u:Value}(h:jx k u=true):RelV (kV k) u:=by
 rcases br h with⟨i,t,rfl,rfl⟩|⟨x,t,rfl,rfl⟩
 ·exact⟨t,rfl⟩
 ·exact⟨t,rfl⟩
section
variable{X:Cx}{pins:List (Addr×Obj)}{σ:St}{H:Hp}{s:Shared}{d:Addr}{o:Obj}
theorem Inv.frzK{kvs:List (Key×V)}(I:Inv X pins σ H s)(h:H d=some (.frz o (.dK kvs))):
  (d==sysModules)=false∧s.heap.get? d=some o∧o.ExactDict∧∃(es:Array DictEntry) (ep:Nat) (vs:List (Key×Value)),o.data= .dict es ep∧es.size=kvs.length∧KV kvs vs∧s.heap.DictAt (a7 X.prog X.w) d vs ep:=by
 obtain⟨hd,z,hs,vs,kv,o',es,ep,ho,hx,hdt,r⟩:=I.hok d _ h
 rw[hd]at ho
 cases ho
 refine⟨hs,hd,hx,es,ep,vs,hdt,?_,kv,o,es,hd,hx,hdt,r⟩
 have l1:=r.2.1.length
 have l2:kvs.length=vs.length:=Paired.length kv
 rw[Array.length_toList]at l1
 omega
theorem Inv.frzT{kvs:List (List Key×V)}(I:Inv X pins σ H s)(h:H d=some (.frz o (.dT kvs))):
  (d==sysModules)=false∧s.heap.get? d=some o∧o.ExactDict∧∃(es:Array DictEntry) (ep:Nat),o.data= .dict es ep∧es.size=kvs.length∧
   ∀(i:Nat) (k:List Key) (v:V),kvs[i]?=some (k,v)→∃(en:DictEntry) (q:Addr),es[i]?=some en∧en.key= .ref q∧H q=some (.tup (k.map kV)):=by
 obtain⟨hd,z,hs,xs,pr,o',es,ep,ho,hx,hdt,he,_⟩:=I.hok d _ h
 rw[hd]at ho
 cases ho
 refine⟨hs,hd,hx,es,ep,hdt,?_,fun i k v e=>?_⟩
 ·have l1:es.size=xs.length:=size_of_entries he
  have l2:kvs.length=xs.length:=Paired.length pr
  omega
 ·obtain⟨b,hb,e1,e2,_⟩:=mK pr e
  have q:=entry_at he i
  rw[hb]at q
  exact⟨_,b.2.1,q,rfl,e2⟩
end
def Itk(d:Addr)(o:Obj)(kvs:List (Key×V)):It:=
 ⟨fun i H=>H d=some (.frz o (.dK kvs))∧i<kvs.length,fun i H x H'=>H'=H∧∃ k v,kvs[i]?=some (k,v)∧x=kV k,fun i H=>H d=some (.frz o (.dK kvs))∧kvs.length≤i⟩
def za(d:Addr)(o:Obj)(kvs:List (List Key×V)):It:=
 ⟨fun i H=>H d=some (.frz o (.dT kvs))∧i<kvs.length,fun i H x H'=>H'=H∧∃(k:List Key) (v:V) (q:Addr),kvs[i]?=some (k,v)∧x= .ref q∧H q=some (.tup (k.map kV)),fun i H=>H d=some (.frz o (.dT kvs))∧kvs.length≤i⟩
theorem kC{o:Obj}{es es':Array DictEntry}{ep ep':Nat}(h:o.data= .dict es ep)(h':o.data= .dict es' ep'):es'=es∧ep'=ep:=by
 rw[h]at h'
 cases h'
 exact⟨rfl,rfl⟩
section
variable{P:Program}{w:World}{K:Frag}{tg:Expr}{d:Addr}{o:Obj}{es:Array DictEntry}{ep:Nat}
theorem vV{kvs:List (Key×V)}(it:Addr)(hod:o.data= .dict es ep):pL P w K tg (Itk d o kvs) [it] it (fun i h=>h.IsKeyIter it d i kvs.length ep) where
 mem:=by simp
 obj:=fun i h st b hb=>by
  have e:b=it:=by simpa using hb
  subst e
  obtain⟨oi,e,c,dd⟩:=st
  exact⟨oi,e,fun v z=>by rw[dd]at z;cases z⟩
 keep:=fun i h h' st k=>st.at fun oi e=>k it (by simp) oi e
 item:=by
  intro X hP hw hK hc i pins s σ H E I hf st hg
  subst hP hw hK
  obtain⟨hd,hi⟩:=hg
  obtain⟨f0,f1,f2,f3,f4,f5⟩:=hf it (by simp)
  obtain⟨hs,hgd,hx,es',ep',vs,hdt,hsz,kv,hm⟩:=I.frzK hd
  obtain⟨rfl,rfl⟩:=kC hod hdt
  obtain⟨⟨k,v⟩,hkv⟩:∃ p,kvs[i]?=some p:=⟨kvs[i],List.getElem?_eq_getElem hi⟩
  obtain⟨u,hu,ru⟩:=yC kv hkv
  have hl:kvs.length=vs.length:=Paired.length kv
  rw[hl]at st
  refine wpAny_pyNext_dict_item st hm hu fun key h' hkey st' sb=>?_
  have I1:Inv X pins σ H {s with heap:=h' }:=I.turned (t':=s.toks) (fun b ob hb e=>(sb.2 b hb).trans e) f0 f1 f3 f4 f5
  obtain⟨oi,e,c,dd⟩:=id st'
  refine⟨key,rfl,oR (s:={s with heap:=h' }) e c dd (by decide) ⟨kV k,H,I1,xC (show jx k key=true from hkey),⟨rfl,k,v,hkv,rfl⟩,?_,fun b hb=>(hf b hb).1⟩⟩
  show h'.IsKeyIter it d (i+1) kvs.length _
  rw[hl]
  exact st'
 done:=by
  intro X hP hw hK hc i pins s σ H E I hf st hg
  subst hP hw hK
  obtain⟨hd,hi⟩:=hg
  obtain⟨f0,f1,f2,f3,f4,f5⟩:=hf it (by simp)
  obtain⟨hs,hgd,hx,es',ep',vs,hdt,hsz,kv,hm⟩:=I.frzK hd
  obtain⟨rfl,rfl⟩:=kC hod hdt
  exact iy (I.ok.hd hc) st hgd hdt hsz hi fun h' eb=>⟨rfl,I.turned (t':=s.toks) (fun b ob hb e=>eb b ob hb e) f0 f1 f3 f4 f5⟩
 self:=fun A i s Q E st h=>wpAny_pyIter_keyiter st h
theorem uh{kvs:List (List Key×V)}(it:Addr)(hod:o.data= .dict es ep):pL P w K tg (za d o kvs) [it] it (fun i h=>h.IsKeyIter it d i kvs.length ep) where
 mem:=by simp
 obj:=fun i h st b hb=>by
  have e:b=it:=by simpa using hb
  subst e
  obtain⟨oi,e,c,dd⟩:=st
  exact⟨oi,e,fun v z=>by rw[dd]at z;cases z⟩
 keep:=fun i h h' st k=>st.at fun oi e=>k it (by simp) oi e
 item:=by
  intro X hP hw hK hc i pins s σ H E I hf st hg
  subst hP hw hK
  obtain⟨hd,hi⟩:=hg
  obtain⟨f0,f1,f2,f3,f4,f5⟩:=hf it (by simp)
  obtain⟨hs,hgd,hx,es',ep',hdt,hsz,ent⟩:=I.frzT hd
  obtain⟨rfl,rfl⟩:=kC hod hdt
  obtain⟨⟨k,v⟩,hkv⟩:∃ p,kvs[i]?=some p:=⟨kvs[i],List.getElem?_eq_getElem hi⟩
  obtain⟨en,q,hen,hkey,hq⟩:=ent i k v hkv
  refine ng st hgd hdt hsz hen fun h' st' sb=>?_
  have I1:Inv X pins σ H {s with heap:=h' }:=I.turned (t':=s.toks) (fun b ob hb e=>(sb.2 b hb).trans e) f0 f1 f3 f4 f5
  obtain⟨oi,e,c,dd⟩:=id st'
  exact⟨en.key,rfl,oR (s:={s with heap:=h' }) e c dd (by decide) ⟨.ref q,H,I1,hkey,⟨rfl,k,v,q,hkv,rfl,hq⟩,st',fun b hb=>(hf b hb).1⟩⟩
 done:=by
  intro X hP hw hK hc i pins s σ H E I hf st hg
  subst hP hw hK
  obtain⟨hd,hi⟩:=hg
  obtain⟨f0,f1,f2,f3,f4,f5⟩:=hf it (by simp)
  obtain⟨hs,hgd,hx,es',ep',hdt,hsz,ent⟩:=I.frzT hd
  obtain⟨rfl,rfl⟩:=kC hod hdt
  exact iy (I.ok.hd hc) st hgd hdt hsz hi fun h' eb=>⟨rfl,I.turned (t':=s.toks) (fun b ob hb e=>eb b ob hb e) f0 f1 f3 f4 f5⟩
 self:=fun A i s Q E st h=>by
  refine wpAny_pyIter_slot st.typeIs F.slot_dict_keyiterator_iter (wpAny_call_entry F.slot_dict_keyiterator_iter st.typeIs F.entry_dict_keyiterator_iter ?_ (F.args_dict_keyiterator_iter_1 _))
  show wpAny _ _ (ret (.ref it)) _ _ s
  exact wpAny_pure ⟨_,rfl,"dict_keyiterator",_,st.typeIs,F.slot_dict_keyiterator_next.lookup,h⟩
end
def iKeys(td:TE):TI:=fun σ H R=>td σ H fun x H1=>∃ d o,x= .ref d∧((∃ kvs,H1 d=some (.frz o (.dK kvs))∧R (Itk d o kvs) H1)∨∃ kvs,H1 d=some (.frz o (.dT kvs))∧R (za d o kvs) H1)
section
variable{X:Cx}{tg e:Expr}{td:TE}{apos cpos:Pos}
theorem gF(he:PE X e td):PI X tg e (iKeys td):=by
 intro pins s σ H R I h
 refine thn (he pins s σ H _ I h) fun u s1 ⟨x,H1,I1,rx,d,o,ex,q⟩=>?_
 subst ex
 obtain rfl:u=Value.ref d:=rx
 rcases q with⟨kvs,hd,q⟩|⟨kvs,hd,q⟩
 ·obtain⟨hs,hgd,hx,es,ep,vs,hdt,hsz,kv,hm⟩:=I1.frzK hd
  refine oC hs hgd hx hdt (uk (tk:=s1.toks) I1 _ (vV _ hdt) ⟨_,Heap.get?_push_size _ rfl,rfl,?_⟩ q)
  rw[hsz]<;>rfl
 ·obtain⟨hs,hgd,hx,es,ep,hdt,hsz,ent⟩:=I1.frzT hd
  refine oC hs hgd hx hdt (uk (tk:=s1.toks) I1 _ (uh _ hdt) ⟨_,Heap.get?_push_size _ rfl,rfl,?_⟩ q)
  rw[hsz]<;>rfl
end
theorem wJ:bootBuiltins "zip"=some (.type "zip"):=by decide +kernel
def Itz(K:Frag)(a b:Addr):It:=
 ⟨fun i H=>∃(xs ys:List V) (x y:V),SqL K H a xs∧SqL K H b ys∧xs[i]?=some x∧ys[i]?=some y,
  fun i H v H'=>∃ T x y,v= .ref T∧H T=none∧H'=upd H T (.tup [x,y])∧(∀ xs,SqL K H a xs→xs[i]?=some x)∧∀ ys,SqL K H b ys→ys[i]?=some y,
  fun i H=>∃ xs ys:List V,SqL K H a xs∧SqL K H b ys∧(xs.length≤i∨ys.length≤i)⟩
theorem xk{P:Program}{w:World}{K:Frag}{elts:List Expr}{kk:Nat}{tpos:Pos}{a b z TI TO i1 i2:Addr}(D:ZipApart z TI TO i1 i2 a b):
  pL P w K (.Tuple elts kk tpos) (Itz K a b) [z,TI,TO,i1,i2] z (fun i h=>IsZip h z TI TO .none∧IsPair h TI (.ref i1) (.ref i2)∧(∃ x y,IsPair h TO x y)∧h.IsListIter i1 a i∧h.IsListIter i2 b i) where
 mem:=by simp
 obj:=fun i h st c hc=>by
  obtain⟨hz,hTI,⟨x,y,hTO⟩,⟨o1,e1,_,d1⟩,⟨o2,e2,_,d2⟩⟩:=st
  have e':c=z∨c=TI∨c=TO∨c=i1∨c=i2:=by simpa using hc
  rcases e' with q|q|q|q|q
  ·rw[q];exact⟨_,hz,fun v q=>nomatch q⟩
  ·rw[q];exact⟨_,hTI,fun v q=>nomatch q⟩
  ·rw[q];exact⟨_,hTO,fun v q=>nomatch q⟩
  ·rw[q];exact⟨o1,e1,fun v q=>by rw[d1]at q;cases q⟩
  ·rw[q];exact⟨o2,e2,fun v q=>by rw[d2]at q;cases q⟩
 keep:=fun i h h' st k=>by
  obtain⟨hz,hTI,⟨x,y,hTO⟩,h1,h2⟩:=st
  exact⟨k z (by simp) _ hz,k TI (by simp) _ hTI,⟨x,y,k TO (by simp) _ hTO⟩,h1.at fun o q=>k i1 (by simp) o q,h2.at fun o q=>k i2 (by simp) o q⟩
 item:=by
  intro X hP hw hK hc i pins s σ H E I hf st hg
  subst hP hw hK
  obtain⟨hz,hTI,⟨x0,y0,hTO⟩,h1,h2⟩:=st
  obtain⟨xs,ys,x,y,hqx,hqy,hx,hy⟩:=hg
  obtain⟨its,rv,p,_⟩:=I.list hqx
  obtain⟨its2,rv2,p2,_⟩:=I.list hqy
  obtain⟨u,hu,ru⟩:=rv.get hx
  obtain⟨u2,hu2,ru2⟩:=rv2.get hy
  have hzl:z<s.heap.objs.size:=Heap.lt_size hz
  refine wpAny_pyNext_zip_item D hz hTI hTO h1 h2 p.isList p2.isList (x:=u) (y:=u2) (by simpa using hu) (by simpa using hu2) fun h' z' TO' h1' h2' hT hsz hk=>?_
  refine⟨_,rfl,wpAny_letOwnedTupleGo_zip (s:={s with heap:=h' }) z' fun h'' z'' sb=>?_⟩
  have hT2:h''.get? s.heap.objs.size=some {cls:= .type "tuple",data:= .seq #[u,u2] }:=(sb.2 _ (Nat.ne_of_gt hzl)).trans hT
  have new:ObjOk X.prog X.w (upd H s.heap.objs.size (.tup [x,y])) h'' s.heap.objs.size (.tup [x,y]):=
   ⟨by show 2≤sizeLine;decide,[u,u2],.cons ru (.cons ru2 .nil),⟨_,hT2,rfl,_,rfl⟩⟩
  have I1:Inv X pins σ (upd H s.heap.objs.size (.tup [x,y])) {s with heap:=h'' }:=
   I.turnedNew (t':=s.toks) (ch:=[z,TI,TO,i1,i2]) (fun c o hb q=>(sb.2 c (fun q'=>hb (by simp[q']))).trans (hk c o (fun q'=>hb (by simp[q'])) (fun q'=>hb (by simp[q'])) (fun q'=>hb (by simp[q'])) (fun q'=>hb (by simp[q'])) q)) hf (le_refl _) new
  refine⟨.ref s.heap.objs.size,_,I1,rfl,⟨_,x,y,rfl,I.hok.fresh (le_refl _),rfl,fun l hl=>by rw[I.list_inj hl hqx];exact hx,fun l hl=>by rw[I.list_inj hl hqy];exact hy⟩,⟨z'',?_,⟨u,u2,?_⟩,?_,?_⟩,fun c hcm=>?_⟩
  ·exact(sb.2 _ D.TIz).trans (hk _ _ D.TIz D.TITO D.TIi1 D.TIi2 hTI)
  ·exact(sb.2 _ D.TOz).trans TO'
  ·exact h1'.at fun o q=>(sb.2 _ D.i1z).trans q
  ·exact h2'.at fun o q=>(sb.2 _ D.i2z).trans q
  ·have hlt:c<s.heap.objs.size:=by
    have e':c=z∨c=TI∨c=TO∨c=i1∨c=i2:=by simpa using hcm
    rcases e' with q|q|q|q|q
    ·rw[q];exact hzl
    ·rw[q];exact Heap.lt_size hTI
    ·rw[q];exact Heap.lt_size hTO
    ·rw[q];obtain⟨_,e1,_⟩:=h1;exact Heap.lt_size e1
    ·rw[q];obtain⟨_,e2,_⟩:=h2;exact Heap.lt_size e2
   rw[ao (ne_of_lt hlt)]
   exact(hf c hcm).1
 done:=by
  intro X hP hw hK hc i pins s σ H E I hf st hg
  subst hP hw hK
  obtain⟨hz,hTI,⟨x0,y0,hTO⟩,h1,h2⟩:=st
  obtain⟨xs,ys,hqx,hqy,hend⟩:=hg
  obtain⟨its,rv,p,_⟩:=I.list hqx
  obtain⟨its2,rv2,p2,_⟩:=I.list hqy
  have l1:=rv.length
  have l2:=rv2.length
  have he:its.toArray[i]?=none∨its2.toArray[i]?=none:=by
   rcases hend with q|q
   ·exact .inl (by simp;omega)
   ·exact .inr (by simp;omega)
  exact wpAny_pyNext_zip_end (I.ok.hd hc) D hz hTI hTO h1 h2 p.isList p2.isList he fun h' hk=>⟨rfl,I.turnedL (t':=s.toks) (ch:=[z,TI,TO,i1,i2]) (fun c o hb q=>
   hk c o (fun q'=>hb (by simp[q'])) (fun q'=>hb (by simp[q'])) (fun q'=>hb (by simp[q'])) (fun q'=>hb (by simp[q'])) q) hf⟩
 self:=fun A i s Q E st h=>wpAny_pyIter_zip st.1 h
def iZip(K:Frag)(ta:TA):TI:=fun σ H R=>ta σ H fun vs H1=>∃ a b xs ys,vs=[.ref a,.ref b]∧SqL K H1 a xs∧SqL K H1 b ys∧R (Itz K a b) H1
theorem xl{X:Cx}{e e2:Expr}{ta:TA}{p pos tpos:Pos}{elts:List Expr}{kk:Nat}(hg:Gl X "zip")(hm:X.mg "zip"=none)(ha:PA X [e,e2] ta)
  (hs:starEach [e,e2] X.env=(false,eval e X.env)::starEach [e2] X.env:=by rfl) (hpl:(backTo pos (starEach [e2] X.env)).any (·.1)=false:=by rfl):
  PI X (.Tuple elts kk tpos) (.Call (.Name "zip" p) [e,e2] [] pos) (iZip X.K ta):=by
 intro pins s σ H R I h
 refine Call_ (ly I hg hm wJ (PyProof.Rows.callWith_type1 (thn (ha pos pins s σ H _ I h) fun us s1 ⟨vs,H1,I1,r1,q1⟩=>?_) hs hpl))
 obtain⟨a,b,xs,ys,ex,hqx,hqy,q⟩:=q1
 subst ex
 cases r1 with
 |cons r rr=>
  cases rr with
  |cons r' rr=>
   cases rr
   cases r
   cases r'
   obtain⟨its,rv,p1,_⟩:=I1.list hqx
   obtain⟨its2,rv2,p2,_⟩:=I1.list hqy
   have la:a<s1.heap.objs.size:=p1.lt
   have lb:b<s1.heap.objs.size:=p2.lt
   refine call_zip_2 p1.isList p2.isList fun h' hz hTI hTO h1 h2 hsz hk=>wpAny_pyIter_zip hz ?_
   have I2:Inv X pins σ H1 {s1 with heap:=h' }:=I1.kept (t':=s1.toks) hk
   refine⟨s1.heap.objs.size+4,[s1.heap.objs.size+4,s1.heap.objs.size+2,s1.heap.objs.size+3,s1.heap.objs.size,s1.heap.objs.size+1],_,_,H1,rfl,I2,xk (PySem.W.ktu_apart s1.heap.objs.size a b la lb),⟨hz,hTI,⟨_,_,hTO⟩,h1,h2⟩,fun c hcm=>?_,q⟩
   have e':c=s1.heap.objs.size+4∨c=s1.heap.objs.size+2∨c=s1.heap.objs.size+3∨c=s1.heap.objs.size∨c=s1.heap.objs.size+1:=by simpa using hcm
   have hle:s1.heap.objs.size≤c:=by
    rcases e' with z|z|z|z|z
    ·rw[z];exact le_add_right _ _
    ·rw[z];exact le_add_right _ _
    ·rw[z];exact le_add_right _ _
    ·rw[z];exact le_refl _
    ·rw[z];exact le_add_right _ _
   exact I1.fpOk hle (I1.hok.fresh hle)
def gA(s:Stmt):Arguments:=match s with
 | .FunctionDef _ a _ _ _ _ _ _ _ _=>a
 |_=>{posonlyargs:=[],args:=[],vararg:=none,kwonlyargs:=[],kw_defaults:=[],kwarg:=none,defaults:=[] }
def ff(s:Stmt):List Stmt:=match s with
 | .FunctionDef _ _ b _ _ _ _ _ _ _=>b
 |_=>[]
def ak(s:Stmt):Scope:=match s with
 | .FunctionDef _ _ _ _ _ _ sc _ _ _=>sc
 |_=>{kind:= .function,names:=[],isGenerator:=false,isCoroutine:=false }
abbrev CX0:CXT:=fun _ _ _ _ _ _=>False
abbrev E0:XK:=fun _ _ _=>False
theorem pass0{X:Cx}:uD CX0 X E0:=fun _ _ _ _ _ _ _ h=>h.elim
structure Fun(K:Frag)(x qual:Str)(st:Stmt)(f:Addr)(fd:FuncData):Prop where
 ex:∃(oc:Value) (od:Option Addr) (kV doc pm:Value) (an:Option Addr) (cdv ct:Value) (osl:Array (Option Value)),
  fd=fnOf x qual (gA st) (ff st) (ak st) .none kV doc pm an cdv ct∧K.lookup f=some ⟨oc,od,.func fd,osl⟩∧codeIn K cdv qual=true
 kp:keepIn K (.ref f)=true
section
variable{P:Program}{w:World}{K:Frag}{mg:Str→Option Value}{base:Heap}
theorem fsc{N ps:List Str}{sc:Scope}(a:sc.kind= .function:=by rfl)(b:sc.isCoroutine=false:=by rfl)(c:sc.isGenerator=false:=by rfl)(d:N.Nodup:=by decide +kernel)(e:N.take ps.length=ps:=by rfl)(f:∀ x∈ps,sc.names.lookup x=some .local∨sc.names.lookup x=some .cell:=by decide +kernel)(g:∀ y∈sc.names,y.2≠ .free:=by decide +kernel):ax N ps sc:=⟨a,b,c,d,e,f,g⟩
theorem Fun.ok{x qual:Str}{st:Stmt}{f:Addr}{fd:FuncData}{N ps:List Str}{k:Nat}{sp:Sp}(F:Fun K x qual st f fd)(S:ax N ps (ak st))(len:∀ vs H Q E,sp vs H Q E→vs.length=ps.length)
  (hbody:∀(cdv:Value) (A:Around) (outer:List Env) (s:Shared) (H:Hp) (vs:List V) (Q:VK) (E:XK),Room k (A.deeper (envOfC qual (ak st) s.heap.objs.size f cdv))→sp vs H Q E→
   ∃ t,PSs (vL CX0 P w K mg base N qual (ak st) f cdv A outer s H E).nox (ff st) t∧t {nx:=fun _ H'=>Q .non H',rt:=Q } (start N vs) H):FnOk P w K mg base CX0 (k+1) f fd ps sp:=by
 obtain⟨oc,od,kV,doc,pm,an,cdv,ct,osl,rfl,lk,hcd⟩:=F.ex
 refine fn_of lk hcd S len fun A outer s H vs Q E hr hsp=>?_
 obtain⟨t,h,q⟩:=hbody cdv A outer s H vs Q E hr hsp
 exact⟨t,h.nox,q⟩
theorem Fun.binds{x qual:Str}{st:Stmt}{f:Addr}{fd:FuncData}{ps:List Str}(F:Fun K x qual st f fd)
  (h:∀(kV doc pm:Value) (an:Option Addr) (cdv ct:Value) (us:List Value),us.length=ps.length→bindArgs (fnOf x qual (gA st) (ff st) (ak st) .none kV doc pm an cdv ct) ⟨us,[]⟩=pure (ps.zip us)):Binds K fd ps []:=by
 obtain⟨oc,od,kV,doc,pm,an,cdv,ct,osl,rfl,lk,hcd⟩:=F.ex
 exact .all (h kV doc pm an cdv ct)
theorem zY{x qual:Str}{st:Stmt}{f:Addr}{oc:Value}{od an:Option Addr}{osl:Array (Option Value)}{kV doc pm cdv ct:Value}(l:K.lookup f=some ⟨oc,od,.func (fnOf x qual (gA st) (ff st) (ak st) .none kV doc pm an cdv ct),osl⟩)
  (c:codeIn K cdv qual=true) (k:keepIn K (.ref f)=true):Fun K x qual st f (fnOf x qual (gA st) (ff st) (ak st) .none kV doc pm an cdv ct):=⟨⟨oc,od,kV,doc,pm,an,cdv,ct,osl,rfl,l,c⟩,k⟩
end
theorem cf{A:Around}{k:Nat}(hr:Room k A):A.units+1<cLine:=lt_of_le_of_lt (Nat.add_le_add_left (by decide:1≤64) _) hr.units
theorem aC{n:Nat}(h:n≤1000):n<sizeLine:=lt_of_le_of_lt h (by decide)
section
variable{X:Cx}
theorem pv(i:Nat){x:Str}{pos:Pos}(hN:X.N[i]?=some x:=by rfl)(hv:Vis X.env.scope x:=by first|exact Or.inl rfl|exact Or.inr (Or.inl rfl)|exact Or.inr (Or.inr rfl))(hd:(x==("__debug__":Str))=false:=by decide)
  (hcd:(x==("__classdict__":Str))=false:=by decide):PE X (.Name x pos) (tVar i):=Ab hN hv hd hcd
theorem wF:dr X (.builtin "len") (fun xs H Q=>∃ a kvs,xs=[V.ref a]∧H a=some (.dK kvs)∧Q (.int kvs.length) H):=by
 intro pins s σ H xs us Q I r h
 obtain⟨a,kvs,rfl,ha,q⟩:=h
 obtain⟨u,rfl,ru⟩:=jI r
 cases ru
 exact d_len I (.inl ha) fun t s' I'=>⟨.int kvs.length,H,I',⟨t,rfl⟩,q⟩
end
theorem vJ{A B:Prop}(h:B):if false=true then A else B:=by
 rw[if_neg Bool.false_ne_true]
 exact h
theorem uC{A B:Prop}(h:A):if true=true then A else B:=by
 rw[if_pos rfl]
 exact h
theorem aK{c A B:Prop}[Decidable c](h1:c→A)(h2:¬ c→B):if c then A else B:=by
 by_cases h:c
 ·rw[if_pos h]
  exact h1 h
 ·rw[if_neg h]
  exact h2 h
def Same(H H':Hp):Prop:=∀ b o,H b=some o→H' b=some o
theorem Same.refl(H:Hp):Same H H:=fun _ _ h=>h
theorem Same.trans{H H1 H2:Hp}(a:Same H H1)(b:Same H1 H2):Same H H2:=fun c o h=>b c o (a c o h)
theorem Same.free{H H':Hp}(e:Same H H'){l:Addr}(h:H' l=Option.none):H l=Option.none:=by
 cases q:H l with
 |none=>rfl
 |some o=>
  rw[e l o q]at h
  cases h
theorem Same.seq{K:Frag}{H H':Hp}{a:Addr}{xs:List V}(e:Same H H')(h:SqL K H a xs):SqL K H' a xs:=by
 rcases h with(h|⟨o,h⟩)|h
 ·exact .inl (.inl (e _ _ h))
 ·exact .inl (.inr ⟨o,e _ _ h⟩)
 ·exact .inr h
section
variable{κ:Type}[DecidableEq κ]
theorem pN:∀{l:List κ} {k:κ},l.Nodup→¬ k∈l→(l++[k]).Nodup
 |[],k,_,_=>by simp
 |a::r,k,h,hk=>by
  obtain⟨h1,h2⟩:=nodup_cons.mp h
  show(a::(r++[k])).Nodup
  refine nodup_cons.mpr ⟨fun m=>?_,pN h2 fun m=>hk (mem_cons.mpr (Or.inr m))⟩
  rcases mem_append.mp m with q|q
  ·exact h1 q
  ·exact hk (mem_cons.mpr (Or.inl (mem_singleton.mp q).symm))
end
theorem cQ{xs:List V}{z:Int}{j:Nat}{v:V}(e:z=(j:Int))(h:xs[j]?=some v):atI xs z=some v:=by
 rw[e]
 exact cn h
theorem vg{α:Type}{l:List α}(hN:l.Nodup){i j:Nat}{x:α}(a:l[i]?=some x)(b:l[j]?=some x):i=j:=by
 obtain⟨h1,e1⟩:=List.getElem?_eq_some_iff.mp a
 obtain⟨h2,e2⟩:=List.getElem?_eq_some_iff.mp b
 exact(List.getElem_inj hN).mp (e1.trans e2.symm)
end L2
section
namespace L2
open PySem PySem.Spec PyProof.Rows
open PySem.W (WData Codec OpenSpec Well WellAll ReadsW ReadsAllW)
mutual
inductive Dw(K:Frag)(H:Hp):V→WData→Prop
 |non:Dw K H .non .none
 |bl (b:Bool):Dw K H (.bl b) (.bool b)
 |int (i:Int):Dw K H (.int i) (.int i)
 |str (x:Str):Dw K H (.str x) (.str x)
 |byt (b:Array UInt8):Dw K H (.byt b) (.bytes b.toList)
 |lst {a:Addr} {xs:List V} {ds:List WData}:SqL K H a xs→fj K H xs ds→Dw K H (.ref a) (.list ds)
 |tup {a:Addr} {xs:List V} {ds:List WData}:SqT K H a xs→fj K H xs ds→Dw K H (.ref a) (.tuple ds)
inductive fj(K:Frag)(H:Hp):List V→List WData→Prop
 |nil:fj K H [] []
 |cons {v:V} {vs:List V} {d:WData} {ds:List WData}:Dw K H v d→fj K H vs ds→fj K H (v::vs) (d::ds)
end
theorem vI{K:Frag}{H:Hp}:∀ ns:List Int,fj K H (ns.map V.int) (ns.map WData.int)
 |[]=> .nil
 |n::r=> .cons (.int n) (vI r)
theorem vF{K:Frag}{H:Hp}:∀(ns:List Int) (xs:List V),fj K H xs (ns.map WData.int)→xs=ns.map V.int
 |[],xs,h=>by
  cases h
  rfl
 |n::r,xs,h=>by
  cases h with
  |cons h1 h2=>
   cases h1
   rw[vF r _ h2]<;>rfl
section
variable{P:Program}{w:World}{K:Frag}{H:Hp}{h:Heap}{R:PySem.W.WRecords}{cl:Str→Option Addr}
theorem zS{a:Addr}{xs:List V}(hok:HOk P w H h)(KX:K.In h)(q:SqL K H a xs):∃(its:List Value) (o:Obj) (n:Nat),Vals xs its∧h.get? a=some o∧o.cls= .type "list"∧o.data= .seq its.toArray n:=by
 rcases q with q|⟨o,its,n,e,hc,_,hd,_,hv⟩
 ·obtain⟨_,its,n,hv,e⟩:=(show ObjOk P w H h a (.lst xs)from q.ok hok)
  exact⟨its,_,n,hv,e,rfl,rfl⟩
 ·exact⟨its.toList,o,n,hv,KX _ _ e,hc,by simp[hd]⟩
theorem Ad{a:Addr}{xs:List V}(hok:HOk P w H h)(KX:K.In h)(q:SqT K H a xs):∃(its:List Value) (o:Obj) (n:Nat),Vals xs its∧h.get? a=some o∧o.cls= .type "tuple"∧o.data= .seq its.toArray n:=by
 rcases q with q|⟨o,its,n,e,hc,hd,_,hv⟩
 ·obtain⟨_,its,hv,o,e,hc,n,hd⟩:=(show ObjOk P w H h a (.tup xs)from q.ok hok)
  exact⟨its,o,n,hv,e,hc,hd⟩
 ·exact⟨its.toList,o,n,hv,KX _ _ e,hc,by simp[hd]⟩
mutual
theorem Dw.reads(hok:HOk P w H h)(KX:K.In h):∀(d:WData) (v:V) (u:Value),Dw K H v d→RelV v u→∃ as,ReadsW R cl h u d as
 | .none,_,_,x,r=>by
  cases x
  cases r
  exact⟨_,ReadsW.none⟩
 | .bool b,_,_,x,r=>by
  cases x
  cases r
  exact⟨_,ReadsW.bool b⟩
 | .int i,_,_,x,r=>by
  cases x
  obtain⟨t,rfl⟩:=r
  exact⟨_,ReadsW.int i t⟩
 | .str s,_,_,x,r=>by
  cases x
  obtain⟨t,rfl⟩:=r
  exact⟨_,ReadsW.str s t⟩
 | .bytes b,_,_,x,r=>by
  cases x
  obtain⟨t,rfl⟩:=r
  exact⟨_,ReadsW.bytes _ t⟩
 | .list ds,_,_,x,r=>by
  cases x with
  |lst hs ha=>
   cases r
   obtain⟨its,o,n,rv,ho,hc,hd⟩:=zS hok KX hs
   obtain⟨as,hr⟩:=Dw.readsAll hok KX ds _ its ha rv
   exact⟨_,ReadsW.list ho hc hd hr⟩
 | .tuple ds,_,_,x,r=>by
  cases x with
  |tup hs ha=>
   cases r
   obtain⟨its,o,n,rv,ho,hc,hd⟩:=Ad hok KX hs
   obtain⟨as,hr⟩:=Dw.readsAll hok KX ds _ its ha rv
   exact⟨_,ReadsW.tuple ho hc hd hr⟩
 | .float _,_,_,x,_=>by cases x
 | .dict _,_,_,x,_=>by cases x
 | .bytearray _,_,_,x,_=>by cases x
 | .set _,_,_,x,_=>by cases x
 | .frozenset _,_,_,x,_=>by cases x
 | .obj _ _,_,_,x,_=>by cases x
theorem Dw.readsAll(hok:HOk P w H h)(KX:K.In h):∀(ds:List WData) (vs:List V) (us:List Value),fj K H vs ds→Vals vs us→∃ as,ReadsAllW R cl h us ds as
 |[],_,_,x,r=>by
  cases x
  cases r
  exact⟨_,ReadsAllW.nil⟩
 |d::ds,_,_,x,r=>by
  cases x with
  |cons h1 h2=>
   cases r with
   |cons r1 r2=>
    obtain⟨as,q1⟩:=Dw.reads hok KX d _ _ h1 r1
    obtain⟨bs,q2⟩:=Dw.readsAll hok KX ds _ _ h2 r2
    exact⟨_,ReadsAllW.cons q1 q2⟩
end
end
mutual
def plW:WData→Bool
 | .none=>true
 | .bool _=>true
 | .int _=>true
 | .str _=>true
 | .bytes _=>true
 | .list xs=>jR xs
 | .tuple xs=>jR xs
 |_=>false
def jR:List WData→Bool
 |[]=>true
 |x::r=>plW x&&jR r
end
theorem rX{α:Type}{f:α→WData}(h:∀ a,plW (f a)=true):∀ l:List α,jR (l.map f)=true
 |[]=>rfl
 |x::r=>by
  show(plW (f x)&&jR (r.map f))=true
  rw[h x,rX h r]<;>rfl
theorem gn:∀(c:Codec) (a:c.denote),plW (c.enc a)=true
 | .unit,_=>rfl
 | .bool,_=>rfl
 | .int _ _,_=>rfl
 | .nat _ _,_=>rfl
 | .u8,_=>rfl
 | .bytes _ _,_=>rfl
 | .text _ _ _ _,_=>rfl
 | .list _ _ c,a=>rX (fun x=>gn c x) a
 | .pair c d,a=>by
  show(plW (c.enc a.1)&&(plW (d.enc a.2)&&true))=true
  rw[gn c a.1,gn d a.2]<;>rfl
 | .triple c d e,a=>by
  show(plW (c.enc a.1)&&(plW (d.enc a.2.1)&&(plW (e.enc a.2.2)&&true)))=true
  rw[gn c a.1,gn d a.2.1,gn e a.2.2]<;>rfl
 | .option c,none=>rfl
 | .option c,some x=>gn c x
theorem nU:∀(cs:List Codec) (a:Codec.denoteAll cs),jR (Codec.encAll cs a)=true
 |[],_=>rfl
 |c::cs,a=>by
  show(plW (c.enc a.1)&&jR (Codec.encAll cs a.2))=true
  rw[gn c a.1,nU cs a.2]<;>rfl
theorem g8:∀{xs:List WData} {d:WData},d∈xs→d.weight≤WData.weightAll xs
 |[],d,h=>absurd h (by simp)
 |x::r,d,h=>by
  show d.weight≤x.weight+1+WData.weightAll r
  rcases mem_cons.mp h with e|m
  ·rw[e]
   omega
  ·have z:=g8 m
   omega
def toV:Value→V
 | .none=> .non
 | .bool b=> .bl b
 | .int i _=> .int i
 | .str x _=> .str x
 | .bytes b _=> .byt b
 | .ref a=> .ref a
 |_=> .non
def OkU(A:List Addr):Value→Prop
 | .none=>True
 | .bool _=>True
 | .int _ _=>True
 | .str _ _=>True
 | .bytes _ _=>True
 | .ref a=>a∈A
 |_=>False
theorem OkU.mono{A B:List Addr}(h:∀ a∈A,a∈B):∀{u:Value},OkU A u→OkU B u:=fun {u} x=>by
 cases u with
 |ref a=>exact h a x
 |none=>trivial
 |bool b=>trivial
 |int i t=>trivial
 |str s t=>trivial
 |bytes b t=>trivial
 |_=>exact False.elim x
theorem yk{A:List Addr}{u:Value}(x:OkU A u):RelV (toV u) u:=by
 cases u with
 |ref a=>rfl
 |none=>rfl
 |bool b=>rfl
 |int i t=>exact⟨t,rfl⟩
 |str s t=>exact⟨t,rfl⟩
 |bytes b t=>exact⟨t,rfl⟩
 |_=>exact False.elim x
theorem eF{A:List Addr}:∀{vs:List Value},(∀ u∈vs,OkU A u)→Vals (vs.map toV) vs
 |[],_=> .nil
 |u::r,h=> .cons (yk (h u (mem_cons_self ..))) (eF fun x hx=>h x (mem_cons_of_mem _ hx))
def ArgOb(h:Heap)(A:List Addr)(a:Addr):Prop:=∃ vs:List Value,vs.length≤sizeLine∧(∀ u∈vs,OkU A u)∧
 (h.get? a=some {cls:= .type "list",data:= .seq vs.toArray }∨h.get? a=some {cls:= .type "tuple",data:= .seq vs.toArray })
theorem ArgOb.mono{h:Heap}{A B:List Addr}{a:Addr}(k:∀ a∈A,a∈B)(x:ArgOb h A a):ArgOb h B a:=by
 obtain⟨vs,h1,h2,h3⟩:=x
 exact⟨vs,h1,fun u hu=>(h2 u hu).mono k,h3⟩
theorem dj{P:Params}{h:Heap}:∀{vs:List Value} {ds:List WData},WellAll P h vs ds→vs.length=ds.length
 |_,_,.nil=>rfl
 |_,_,.cons _ b=>by
  show _+1=_+1
  rw[dj b]
theorem nI{P:Params}{h:Heap}{v:Value}{ds:List WData}(x:Well P h v (.list ds)):∃(a:Addr) (vs:List Value),v= .ref a∧h.get? a=some {cls:= .type "list",data:= .seq vs.toArray }∧WellAll P h vs ds:=by
 cases x with
 |list ho hall=>exact⟨_,_,rfl,ho,hall⟩
theorem lF{P:Params}{h:Heap}{v:Value}{ds:List WData}(x:Well P h v (.tuple ds)):∃(a:Addr) (vs:List Value),v= .ref a∧h.get? a=some {cls:= .type "tuple",data:= .seq vs.toArray }∧WellAll P h vs ds:=by
 cases x with
 |tuple ho hall=>exact⟨_,_,rfl,ho,hall⟩
theorem nN{P:Params}{h:Heap}{us:List Value}{d:WData}{ds:List WData}(x:WellAll P h us (d::ds)):∃(v:Value) (vs:List Value),us=v::vs∧Well P h v d∧WellAll P h vs ds:=by
 cases x with
 |cons a b=>exact⟨_,_,rfl,a,b⟩
theorem iU{n:Nat}(h:n≤1048576):n≤sizeLine:=le_trans h (by decide)
section
variable{P:Params}{h:Heap}
mutual
theorem xD:∀(d:WData) (v:Value),Well P h v d→plW d=true→d.weight≤1048576→∃ A:List Addr,OkU A v∧∀ a∈A,ArgOb h A a
 | .none,_,x,_,_=>by
  cases x
  exact⟨[],trivial,fun a m=>absurd m (by simp)⟩
 | .bool b,_,x,_,_=>by
  cases x
  exact⟨[],trivial,fun a m=>absurd m (by simp)⟩
 | .int i,_,x,_,_=>by
  cases x
  exact⟨[],trivial,fun a m=>absurd m (by simp)⟩
 | .str s,_,x,_,_=>by
  cases x
  exact⟨[],trivial,fun a m=>absurd m (by simp)⟩
 | .bytes b,_,x,_,_=>by
  cases x
  exact⟨[],trivial,fun a m=>absurd m (by simp)⟩
 | .list ds,_,x,p,z=>by
  obtain⟨a,vs,rfl,ho,hall⟩:=nI x
  have z2:WData.weightAll ds≤1048576:=z
  obtain⟨A,h1,h2⟩:=iX ds _ hall p fun d hd=>le_trans (g8 hd) z2
  have k:∀ b∈A,b∈a::A:=fun b hb=>mem_cons_of_mem _ hb
  refine⟨a::A,mem_cons_self ..,fun b hb=>?_⟩
  rcases mem_cons.mp hb with e|m
  ·rw[e]
   exact⟨vs,iU (by rw[dj hall];exact le_trans (PySem.W.length_le_weightAllW ds) z2),fun u hu=>(h1 u hu).mono k,.inl ho⟩
  ·exact(h2 b m).mono k
 | .tuple ds,_,x,p,z=>by
  obtain⟨a,vs,rfl,ho,hall⟩:=lF x
  have z2:WData.weightAll ds≤1048576:=z
  obtain⟨A,h1,h2⟩:=iX ds _ hall p fun d hd=>le_trans (g8 hd) z2
  have k:∀ b∈A,b∈a::A:=fun b hb=>mem_cons_of_mem _ hb
  refine⟨a::A,mem_cons_self ..,fun b hb=>?_⟩
  rcases mem_cons.mp hb with e|m
  ·rw[e]
   exact⟨vs,iU (by rw[dj hall];exact le_trans (PySem.W.length_le_weightAllW ds) z2),fun u hu=>(h1 u hu).mono k,.inr ho⟩
  ·exact(h2 b m).mono k
 | .float _,_,_,p,_=>Bool.noConfusion (show false=true from p)
 | .dict _,_,_,p,_=>Bool.noConfusion (show false=true from p)
 | .bytearray _,_,_,p,_=>Bool.noConfusion (show false=true from p)
 | .set _,_,_,p,_=>Bool.noConfusion (show false=true from p)
 | .frozenset _,_,_,p,_=>Bool.noConfusion (show false=true from p)
 | .obj _ _,_,_,p,_=>Bool.noConfusion (show false=true from p)
theorem iX:∀(ds:List WData) (vs:List Value),WellAll P h vs ds→jR ds=true→(∀ d∈ds,d.weight≤1048576)→∃ A:List Addr,(∀ u∈vs,OkU A u)∧∀ a∈A,ArgOb h A a
 |[],_,x,_,_=>by
  cases x
  exact⟨[],fun u m=>absurd m (by simp),fun a m=>absurd m (by simp)⟩
 |d::ds,_,x,p,z=>by
  obtain⟨v,vs,rfl,x1,x2⟩:=nN x
  have q:plW d=true∧jR ds=true:=Bool.and_eq_true_iff.mp p
  obtain⟨A,a1,a2⟩:=xD d v x1 q.1 (z d (mem_cons_self ..))
  obtain⟨B,b1,b2⟩:=iX ds vs x2 q.2 fun e he=>z e (mem_cons_of_mem _ he)
  have kA:∀ b∈A,b∈A++B:=fun b hb=>mem_append.mpr (.inl hb)
  have kB:∀ b∈B,b∈A++B:=fun b hb=>mem_append.mpr (.inr hb)
  refine⟨A++B,fun u hu=>?_,fun b hb=>?_⟩
  ·rcases mem_cons.mp hu with e|m
   ·rw[e]
    exact a1.mono kA
   ·exact(b1 u m).mono kB
  ·rcases mem_append.mp hb with m|m
   ·exact(a2 b m).mono kA
   ·exact(b2 b m).mono kB
end
end
def yT(o:Obj):Option HO:=match o.data with
 | .seq vs _=>if(o.cls==Value.type "list")=true then some (.frz o (.lst (vs.toList.map toV)))else some (.frz o (.tup (vs.toList.map toV)))
 |_=>none
def eT(K:Frag)(h:Heap)(A:List Addr):Hp:=fun b=>if b∈A then(if(K.lookup b).isNone=true then(h.get? b).bind yT else none)else none
def sL(H:Hp):Prop:=∀ b,H b=none∨∃ o u,H b=some (.frz o u)
theorem qJ(vs:List Value):yT {cls:= .type "list",data:= .seq vs.toArray }=some (.frz {cls:= .type "list",data:= .seq vs.toArray } (.lst (vs.map toV))):=by
 show(if(Value.type "list"==Value.type "list")=true then some (HO.frz {cls:= .type "list",data:= .seq vs.toArray } (.lst (vs.toArray.toList.map toV)))else some (HO.frz {cls:= .type "list",data:= .seq vs.toArray } (.tup (vs.toArray.toList.map toV))))=_
 rw[if_pos (beq_self_eq_true _)]
theorem qP(vs:List Value):yT {cls:= .type "tuple",data:= .seq vs.toArray }=some (.frz {cls:= .type "tuple",data:= .seq vs.toArray } (.tup (vs.map toV))):=by
 show(if(Value.type "tuple"==Value.type "list")=true then some (HO.frz {cls:= .type "tuple",data:= .seq vs.toArray } (.lst (vs.toArray.toList.map toV)))else some (HO.frz {cls:= .type "tuple",data:= .seq vs.toArray } (.tup (vs.toArray.toList.map toV))))=_
 rw[if_neg (by decide)]
section
variable{P:Program}{w:World}{K:Frag}{h:Heap}{A:List Addr}
theorem j6{b:Addr}{o:Obj}(hb:b∈A)(hk:K.lookup b=none)(e:h.get? b=some o):eT K h A b=yT o:=by
 unfold eT
 rw[if_pos hb,hk,if_pos (show(none:Option Obj).isNone=true from rfl),e]<;>rfl
theorem yL{b:Addr}{u:HO}(q:eT K h A b=some u):b∈A∧K.lookup b=none:=by
 unfold eT at q
 by_cases hb:b∈A
 ·rw[if_pos hb]at q
  cases hk:K.lookup b with
  |none=>exact⟨hb,rfl⟩
  |some o=>
   rw[hk,if_neg (by simp)]at q
   cases q
 ·rw[if_neg hb]at q
  cases q
theorem j7(ar:∀ a∈A,ArgOb h A a){b:Addr}{u:HO}(q:eT K h A b=some u):K.lookup b=none∧∃ vs:List Value,vs.length≤sizeLine∧(∀ u∈vs,OkU A u)∧
  ((h.get? b=some {cls:= .type "list",data:= .seq vs.toArray }∧u= .frz {cls:= .type "list",data:= .seq vs.toArray } (.lst (vs.map toV)))∨
   (h.get? b=some {cls:= .type "tuple",data:= .seq vs.toArray }∧u= .frz {cls:= .type "tuple",data:= .seq vs.toArray } (.tup (vs.map toV)))):=by
 obtain⟨hb,hk⟩:=yL q
 obtain⟨vs,h1,h2,h3⟩:=ar b hb
 refine⟨hk,vs,h1,h2,?_⟩
 rcases h3 with e|e
 ·rw[j6 hb hk e,qJ]at q
  exact .inl ⟨e,(Option.some.inj q).symm⟩
 ·rw[j6 hb hk e,qP]at q
  exact .inr ⟨e,(Option.some.inj q).symm⟩
theorem wM(ar:∀ a∈A,ArgOb h A a):sL (eT K h A):=fun b=>by
 cases q:eT K h A b with
 |none=>exact .inl rfl
 |some u=>
  obtain⟨_,vs,_,_,⟨_,e⟩|⟨_,e⟩⟩:=j7 ar q
  ·exact .inr ⟨_,_,by rw[e]⟩
  ·exact .inr ⟨_,_,by rw[e]⟩
theorem y8(ar:∀ a∈A,ArgOb h A a):HOk P w (eT K h A) h:=fun b u q=>by
 obtain⟨_,vs,h1,h2,⟨e,rfl⟩|⟨e,rfl⟩⟩:=j7 ar q
 ·exact⟨e,by rw[length_map];exact h1,vs,_,eF h2,e⟩
 ·exact⟨e,by rw[length_map];exact h1,vs,eF h2,_,e,rfl,_,rfl⟩
theorem ke{c c':Value}{vs us:List Value}(e:(some {cls:=c,data:= .seq vs.toArray }:Option Obj)=some {cls:=c',data:= .seq us.toArray }):c=c'∧vs=us:=by
 have e1:=Option.some.inj e
 have e2:c=c':=congrArg Obj.cls e1
 have e3:Data.seq vs.toArray=Data.seq us.toArray:=congrArg Obj.data e1
 injection e3 with e4
 refine⟨e2,?_⟩
 have e5:=congrArg Array.toList e4
 simpa using e5
theorem argL(KX:K.In h)(ar:∀ a∈A,ArgOb h A a){a:Addr}{vs:List Value}(ha:a∈A)(e:h.get? a=some {cls:= .type "list",data:= .seq vs.toArray }):(∀ u∈vs,OkU A u)∧SqL K (eT K h A) a (vs.map toV):=by
 obtain⟨us,h1,h2,h3⟩:=ar a ha
 have hu:us=vs:=by
  rcases h3 with q|q
  ·rw[e]at q
   exact(ke q).2.symm
  ·rw[e]at q
   exact absurd (Value.type.inj (ke q).1) (by decide)
 subst hu
 refine⟨h2,?_⟩
 cases hk:K.lookup a with
 |none=>exact .inl (.inr ⟨_,by rw[j6 ha hk e,qJ]⟩)
 |some o=>
  have e2:=KX a o hk
  rw[e]at e2
  obtain rfl:=Option.some.inj e2
  exact .inr ⟨_,us.toArray,_,hk,rfl,rfl,rfl,by rw[size_toArray];exact h1,by simpa using eF h2⟩
theorem argT(KX:K.In h)(ar:∀ a∈A,ArgOb h A a){a:Addr}{vs:List Value}(ha:a∈A)(e:h.get? a=some {cls:= .type "tuple",data:= .seq vs.toArray }):(∀ u∈vs,OkU A u)∧SqT K (eT K h A) a (vs.map toV):=by
 obtain⟨us,h1,h2,h3⟩:=ar a ha
 have hu:us=vs:=by
  rcases h3 with q|q
  ·rw[e]at q
   exact absurd (Value.type.inj (ke q).1) (by decide)
  ·rw[e]at q
   exact(ke q).2.symm
 subst hu
 refine⟨h2,?_⟩
 cases hk:K.lookup a with
 |none=>exact .inl (.inr ⟨_,by rw[j6 ha hk e,qP]⟩)
 |some o=>
  have e2:=KX a o hk
  rw[e]at e2
  obtain rfl:=Option.some.inj e2
  exact .inr ⟨_,us.toArray,_,hk,rfl,rfl,by rw[size_toArray];exact h1,by simpa using eF h2⟩
mutual
theorem Ak{Pm:Params}(KX:K.In h)(ar:∀ a∈A,ArgOb h A a):∀(d:WData) (v:Value),Well Pm h v d→plW d=true→OkU A v→Dw K (eT K h A) (toV v) d
 | .none,_,x,_,_=>by
  cases x
  exact .non
 | .bool b,_,x,_,_=>by
  cases x
  exact .bl b
 | .int i,_,x,_,_=>by
  cases x
  exact .int i
 | .str s,_,x,_,_=>by
  cases x
  exact .str s
 | .bytes b,_,x,_,_=>by
  cases x
  have z:=Dw.byt (K:=K) (H:=eT K h A) b.toArray
  exact z
 | .list ds,_,x,p,hu=>by
  obtain⟨a,vs,rfl,ho,hall⟩:=nI x
  obtain⟨h2,hs⟩:=argL KX ar hu ho
  exact .lst hs (pM KX ar ds _ hall p h2)
 | .tuple ds,_,x,p,hu=>by
  obtain⟨a,vs,rfl,ho,hall⟩:=lF x
  obtain⟨h2,hs⟩:=argT KX ar hu ho
  exact .tup hs (pM KX ar ds _ hall p h2)
 | .float _,_,_,p,_=>Bool.noConfusion (show false=true from p)
 | .dict _,_,_,p,_=>Bool.noConfusion (show false=true from p)
 | .bytearray _,_,_,p,_=>Bool.noConfusion (show false=true from p)
 | .set _,_,_,p,_=>Bool.noConfusion (show false=true from p)
 | .frozenset _,_,_,p,_=>Bool.noConfusion (show false=true from p)
 | .obj _ _,_,_,p,_=>Bool.noConfusion (show false=true from p)
theorem pM{Pm:Params}(KX:K.In h)(ar:∀ a∈A,ArgOb h A a):∀(ds:List WData) (vs:List Value),WellAll Pm h vs ds→jR ds=true→(∀ u∈vs,OkU A u)→fj K (eT K h A) (vs.map toV) ds
 |[],_,x,_,_=>by
  cases x
  exact .nil
 |d::ds,_,x,p,hu=>by
  obtain⟨v,vs,rfl,x1,x2⟩:=nN x
  have q:plW d=true∧jR ds=true:=Bool.and_eq_true_iff.mp p
  exact .cons (Ak KX ar d v x1 q.1 (hu _ (mem_cons_self ..))) (pM KX ar ds vs x2 q.2 fun u m=>hu u (mem_cons_of_mem _ m))
end
end
theorem wB{P:Program}{w:World}{K:Frag}{mg mb:Str→Option Value}{CX:CXT}{k:Nat}{fa:Addr}{fd:FuncData}{ps:List Str}{sp:Sp}{s₁:Shared}{vals:List Value}{ds:List WData}{R:PySem.W.WRecords}{cl:Str→Option Addr}{d0:WData}
  (KX:K.In s₁.heap) (hns:s₁.heap.Ns mainGlobals mg) (hb:s₁.heap.Ns builtinsNs mb) (hbb:∀ x:Str,x≠"__name__"→mb x=bootBuiltins x) (hlim:s₁.heap.NoLimit) (hg:s₁.gens= #[])
  (hwl:WellAll w.params s₁.heap vals ds) (hpl:jR ds=true) (hwt:∀ d∈ds,d.weight≤1048576) (hr:Room k callerA)
  (F:∀ base:Heap,K.In base→base.Ns mainGlobals mg→FnOk P w K mg base CX k fa fd ps sp) (hbind:∀(s:Shared) (us:List Value),us.length=ps.length→BindsTo s fd ⟨us,[]⟩ (ps.zip us)) (hlen:ds.length=ps.length)
  (hsp:∀(H:Hp) (xs:List V),sL H→fj K H xs ds→sp xs H (fun v H'=>Dw K H' v d0) fun _ _ _=>False)
  (hCX:∀ H e s',CX [] H s₁ (fun _ _ _=>False) e s'→False):
  codeAny (model P w) callerA (.call (.ref fa) ⟨vals,[]⟩) (fun r s'=>∃ u as,r= .ok (.ret u)∧ReadsW R cl s'.heap u d0 as∧OldK s₁.heap s'.heap∧s'.os=s₁.os∧AllBare s'.gens) s₁:=by
 obtain⟨A,ho,ar⟩:=iX ds vals hwl hpl hwt
 have hO:sL (eT K s₁.heap A):=wM ar
 have hok:HOk P w (eT K s₁.heap A) s₁.heap:=y8 ar
 have hS:=pM KX ar ds vals hwl hpl ho
 have hV:=eF ho
 have hK:∀ b u,eT K s₁.heap A b=some u→K.lookup b=none:=fun b u q=>(j7 ar q).1
 have noA:∀{b:Addr} {o:Obj} {es:Array DictEntry} {ep:Nat},s₁.heap.get? b=some o→o.data= .dict es ep→eT K s₁.heap A b=none:=fun {b o es ep} e d=>by
  cases q:eT K s₁.heap A b with
  |none=>rfl
  |some u=>
   obtain⟨_,vs,_,_,⟨e2,_⟩|⟨e2,_⟩⟩:=j7 ar q
   ·rw[e2]at e
    cases e
    have d':Data.seq vs.toArray _=Data.dict es ep:=d
    cases d'
   ·rw[e2]at e
    cases e
    have d':Data.seq vs.toArray _=Data.dict es ep:=d
    cases d'
 generalize eT K s₁.heap A=H at hO hok hS hK noA
 have base_of:∀{b:Addr} {o:Obj},s₁.heap.get? b=some o→H b=none→(pU s₁.heap H).get? b=some o:=fun e n=>xo e n
 have nsK:∀{b:Addr} {m:Str→Option Value},s₁.heap.Ns b m→(pU s₁.heap H).Ns b m:=fun {b m} ⟨o,es,ep,e,d,r⟩=>⟨o,es,ep,base_of e (noA e d),d,r⟩
 have nK:∀ b o,K.lookup b=some o→H b=none:=fun b o e=>by
  cases q:H b with
  |none=>rfl
  |some u=>
   rw[hK b u q]at e
   cases e
 have hKb:K.In (pU s₁.heap H):=fun b o e=>base_of (KX b o e) (nK b o e)
 have hM:Mod K mg (pU s₁.heap H):=⟨hKb,nsK hns,⟨mb,nsK hb,hbb⟩,let⟨mc,h1,h2⟩:=hlim;⟨mc,nsK h1,h2⟩⟩
 have e0:ze P w K mg (pU s₁.heap H) callerA [] s₁ H:=⟨rfl,hM,fun b o e=>zj e,Nat.le_of_eq (wz _ _),trivial,fun b hb=>absurd (show b∈([]:List Addr)from hb) (by simp),hok,.of_eq hg⟩
 have hl:vals.length=ps.length:=by rw[dj hwl];exact hlen
 refine codeAny_mono ((F _ hKb (nsK hns)).run callerA [] s₁ H ⟨vals,[]⟩ vals (vals.map toV) _ _ hr e0 (hbind s₁ vals hl) hV (hsp H _ hO hS)) fun r s' x=>?_
 cases r with
 |error e=>exact(hCX H e s' x).elim
 |ok fl=>
  cases fl with
  |next=>exact False.elim x
  |brk=>exact False.elim x
  |cont=>exact False.elim x
  |ret u=>
   obtain⟨v,H',os,bare,un,hok',r',q⟩:=x
   have kept:∀ b o,s₁.heap.get? b=some o→s'.heap.get? b=some o:=fun b o e=>by
    cases q2:H b with
    |none=>exact un.keep b o e q2 (by intro z;exact absurd (show b∈([]:List Addr)from z) (by simp)) (by simp)
    |some u2=>
     rcases hO b with z|⟨ob,u3,z⟩
     ·rw[q2]at z
      cases z
     ·have z2:=un.frzs b ob _ z
      obtain⟨e1,_⟩:=hok b _ z
      obtain⟨e2,_⟩:=hok' b _ z2
      rw[e]at e1
      cases e1
      exact e2
   have KX':K.In s'.heap:=fun b o e=>kept b o (KX b o e)
   obtain⟨as,hrd⟩:=Dw.reads (R:=R) (cl:=cl) hok' KX' d0 v u q r'
   exact⟨u,as,rfl,hrd,OldK.of_keep kept,os,bare⟩
theorem mC{ds:List WData}(h:WData.layableAll ds=true):∀ d∈ds,d.weight≤1048576:=fun d hd=>
 (PySem.W.layableW_iff.mp (all_eq_true.mp h d hd)).2.2
theorem kU:∀(cs:List Codec) (a:Codec.denoteAll cs),(Codec.encAll cs a).length=cs.length
 |[],_=>rfl
 |c::cs,a=>by
  show(Codec.encAll cs a.2).length+1=cs.length+1
  rw[kU cs a.2]
theorem wN{r:OpenSpec}{k:Nat}{q:Program}{loose:List Str}{XP:(Str→Option Value)→Heap→Prop}{YP:World→Heap→Prop}{d:DefRec}{K:Params→Frag}{CX:World→CXT}{ps:List Str}{sp:World→Sp}
  (hwell:r.wellSaid=true) (hdf:d.params.defaults=[]) (hlen:r.args.length=ps.length) (hr:Room k callerA)
  (hY:∀(w:World) (h:Heap),YP w h→(K w.params).In h)
  (F:∀(w:World) (mg:Str→Option Value) (fa:Addr) (h:Heap),YP w h→(K w.params).In h→h.Ns mainGlobals mg→mg d.name=some (.ref fa)→
   ∃ fd:FuncData,(∀(s:Shared) (us:List Value),us.length=ps.length→BindsTo s fd ⟨us,[]⟩ (ps.zip us))∧
    ∀ base:Heap,(K w.params).In base→base.Ns mainGlobals mg→FnOk r.prog w (K w.params) mg base (CX w) k fa fd ps (sp w))
  (hsp:∀(w:World) (H:Hp) (xs:List V) (a:Codec.denoteAll r.args),sL H→Codec.withinAll r.args a=true→Codec.app r.args r.asked a=true→fj (K w.params) H xs (Codec.encAll r.args a)→
   sp w xs H (fun v H'=>Dw (K w.params) H' v (r.ret.enc (Codec.app r.args r.f a))) fun _ _ _=>False)
  (hCX:∀(w:World) (H:Hp) (s:Shared) (e:Value) (s':Shared),CX w [] H s (fun _ _ _=>False) e s'→False):
  PySem.W.WalkOS q loose XP YP r d [] (fun f vs=>PySem.call f vs):=by
 intro w s_0 s₁ mg mb G Y fa o pm cd doc dV kV ho hd hcd hD hmg hg args vals as hpre hlay hrd hwl hlo
 obtain⟨a,e1,e2⟩:=PySem.W.os_pre_some hpre
 obtain⟨e3,hwi⟩:=Codec.encAll_of_decAll r.args args a e1
 subst e3
 have KX:=hY w _ Y
 obtain⟨fd,hb,hF⟩:=F w mg fa _ Y KX G.T.g hmg
 refine PySem.W.enter_call (codeAny_mono (wB (R:=[]) (cl:=classAt s_0.heap) (d0:=r.ret.enc (Codec.app r.args r.f a)) KX G.T.g G.T.b G.T.builtins G.T.nolimit hg hwl (nU _ _) (mC hlay) hr hF hb (by rw[kU];exact hlen)
  (fun H xs hO hS=>hsp w H xs a hO hwi e2 hS) fun H e s'=>hCX w H s₁ e s') fun r' s' hq=>?_)
 obtain⟨u,as',rfl,h1,h2,h3,h4⟩:=hq
 exact⟨.inl ⟨u,_,as',rfl,fun _=>rfl,h1,(OpenSpec.post_iff hwell hwi _ _).mpr rfl,fun z=>Bool.noConfusion (show false=true from z)⟩,h2,h3,h4⟩
theorem uy{r:OpenSpec}{k:Nat}{q:Program}{loose:List Str}{XP:(Str→Option Value)→Heap→Prop}{YP:World→Heap→Prop}{d:DefRec}{K:Params→Frag}{CX:CXT}{ps:List Str}{sp:Frag→Sp}
  (hwell:r.wellSaid=true) (hdf:d.params.defaults=[]) (hlen:r.args.length=ps.length) (hr:Room k callerA)
  (hY:∀(w:World) (h:Heap),YP w h→(K w.params).In h)
  (F:∀(w:World) (mg:Str→Option Value) (fa:Addr) (h:Heap),YP w h→(K w.params).In h→h.Ns mainGlobals mg→mg d.name=some (.ref fa)→
   ∃ fd:FuncData,(∀(s:Shared) (us:List Value),us.length=ps.length→BindsTo s fd ⟨us,[]⟩ (ps.zip us))∧
    ∀ base:Heap,(K w.params).In base→base.Ns mainGlobals mg→FnOk r.prog w (K w.params) mg base CX k fa fd ps (sp (K w.params)))
  (hsp:∀(K:Frag) (H:Hp) (xs:List V) (a:Codec.denoteAll r.args),sL H→Codec.withinAll r.args a=true→Codec.app r.args r.asked a=true→fj K H xs (Codec.encAll r.args a)→
   sp K xs H (fun v H'=>Dw K H' v (r.ret.enc (Codec.app r.args r.f a))) fun _ _ _=>False)
  (hCX:∀(H:Hp) (s:Shared) (e:Value) (s':Shared),CX [] H s (fun _ _ _=>False) e s'→False):
  PySem.W.WalkOS q loose XP YP r d [] (fun f vs=>PySem.call f vs):=
 wN (K:=K) (CX:=fun _=>CX) (sp:=fun w=>sp (K w.params)) hwell hdf hlen hr hY F (fun w H xs a h1 h2 h3 h4=>hsp (K w.params) H xs a h1 h2 h3 h4) fun _ H s e s'=>hCX H s e s'
end L2
end
namespace L2
open PySem PySem.Spec PyProof.Rows
section
variable{prog:Program}{w:World}
def Hs(prog:Program)(w:World)(A:Around)(h:Heap)(v:Value)(n:Int)(d:Nat):Prop:=
 ∀(E:Value→Shared→Prop) (s:Shared) (Q:Int→Shared→Prop),s.heap=h→Q n {s with toks:=s.toks+d }→wpAny (model prog w) A (pyHash v) Q E s
inductive HsAll(prog:Program)(w:World)(A:Around)(h:Heap):List Value→List Int→Nat→Prop
 |nil:HsAll prog w A h [] [] 0
 |cons {v vs n ns d e}:Hs prog w A h v n d→HsAll prog w A h vs ns e→HsAll prog w A h (v::vs) (n::ns) (d+e)
theorem xw{A:Around}{h:Heap}(i:Int)(t:Tok):Hs prog w A h (.int i t) (hashInt i) 1:=fun E s Q _ q=>wpAny_pyHash_int q
theorem uZ{A:Around}{h:Heap}:∀{vs:List Value} {ns:List Int},IntsAre vs ns→HsAll prog w A h vs (ns.map hashInt) vs.length
 |_,_,.nil=> .nil
 |_,_,.cons n t r=>by
  have:=HsAll.cons (xw (prog:=prog) (w:=w) (A:=A) (h:=h) n t) (uZ r)
  rw[add_comm]at this
  exact this
theorem yp{A:Around}{h:Heap}{a:Addr}{items:Array Value}{ns:List Int}{d:Nat}(hu:A.units<cLine)(T:IsTup h a items)(all:HsAll prog w A.in1 h items.toList ns d):
  Hs prog w A h (.ref a) (reduceHash (Builtin.Tuple.tupleHashOf ns)) (d+1):=by
 intro E s Q hh q
 subst hh
 obtain⟨o,ho,hc,m,hd⟩:=T
 have ty:s.TypeIs (.ref a) "tuple":=⟨o,ho,hc⟩
 show wpAny _ _ (pyHashByItsType (.ref a)) Q E s
 refine PySem.W.pyHash_slot ty PySem.F.slot_tuple_hash PySem.F.entry_tuple_hash (PySem.F.args_tuple_hash_1 _) (by rw[beq_builtin_none]) (.inr hu) ?_
 show wpAny _ _ (do
  let mut hs:Array Int:= #[]
  for x in ← Builtin.Tuple.tupleItemsOf (.ref a) do hs:=hs.push (← pyHash x)
  retInt (Builtin.Tuple.tupleHashOf hs.toList)) _ _ s
 refine wpAny_bind (wpAny_tupleItemsOf ho hd (wpAny_bind ?_))
 rw[← Array.forIn_toList]
 let J:List Value→Array Int→Shared→Prop:=fun rest b s'=>∃ ms e,HsAll prog w A.in1 s.heap rest ms e∧b.toList++ms=ns∧s'.heap=s.heap∧{s' with toks:=s'.toks+e }={s with toks:=s.toks+d }
 have last:∀(b:Array Int) (s':Shared),J [] b s'→wpAny (model prog w) A.in1 (retInt (Builtin.Tuple.tupleHashOf b.toList)) (fun fin s'=>∃ n t,fin= .done (.ret (.int n t))∧Q (reduceHash n) s') E s':=by
  rintro b s' ⟨ms,e,al,eb,_,es⟩
  cases al
  rw[append_nil]at eb
  rw[eb]
  have es':s'={s with toks:=s.toks+d }:=es
  subst es'
  exact wpAny_bind (wpAny_mkInt (wpAny_pure ⟨_,_,rfl,q⟩))
 refine wpAny_forIn_list _ J _ ?_ last _ _ ⟨ns,d,all,rfl,rfl,rfl⟩
 rintro x rest b s' ⟨ms,e,al,eb,hh,es⟩
 cases al with
 | @cons _ _ n ms' d1 e1 h1 r1=>
  refine wpAny_bind (h1 _ s' _ hh ?_)
  have nxt:J rest (b.push n) {s' with toks:=s'.toks+d1 }:=by
   refine⟨ms',e1,r1,by rw[Array.toList_push,append_assoc];exact eb,hh,?_⟩
   rw[← es]
   show {s' with toks:=s'.toks+d1+e1 }={s' with toks:=s'.toks+(d1+e1) }
   rw[Nat.add_assoc]
  first
   |exact wpAny_pure nxt
   |exact wpAny_bind (wpAny_pure (wpAny_pure nxt))
theorem oD{A:Around}{E:Value→Shared→Prop}{s:Shared}{Q:Bool→Shared→Prop}{n:Nat}{a:Addr}{items:Array Value}(T:IsTup s.heap a items)
  (hq:∀ v,v∈items.toList→∀(E:Value→Shared→Prop) (Q:Bool→Shared→Prop),Q true s→wpAny (model prog w) A (eqIsQuiet n v) Q E s) (h:Q true s):wpAny (model prog w) A (eqIsQuiet (n+1) (.ref a)) Q E s:=by
 obtain⟨o,ho,hc,m,hd⟩:=T
 have ty:s.TypeIs (.ref a) "tuple":=⟨o,ho,hc⟩
 unfold eqIsQuiet
 refine wpAny_bind (wpAny_specialOf ty PySem.F.slot_tuple_eq.lookup (wpAny_bind (m:=isInstance (.ref a) (.type "tuple")) (wpAny_isInstance ty isSubtype_tuple_tuple ?_)))
 rw[if_neg (by decide)]
 refine wpAny_bind (wpAny_seqItems ho hd (wpAny_bind ?_))
 rw[show(some items).getD #[]=items from rfl,← Array.forIn_toList]
 refine wpAny_forIn_list _ (fun rest r s'=>r.1=none∧s'=s∧∀ v,v∈rest→v∈items.toList) _ ?_ ?_ _ _ ⟨rfl,rfl,fun _ z=>z⟩
 ·rintro v rest r s' ⟨_,rfl,sub⟩
  refine wpAny_bind (hq v (sub v mem_cons_self) _ _ ?_)
  rw[if_neg (by decide)]
  exact wpAny_pure ⟨rfl,rfl,fun u z=>sub u (mem_cons_of_mem _ z)⟩
 ·rintro⟨r1,r2⟩ s' ⟨e,rfl,_⟩
  have e':r1=none:=e
  subst e'
  exact wpAny_pure h
def PairAt(h:Heap)(k:Int×List Int)(a:Addr):Prop:=∃(b:Addr) (t:Tok) (vs:List Value),IsTup h a #[.int k.1 t,.ref b]∧IsTup h b vs.toArray∧IntsAre vs k.2
def qX(k:Int×List Int):PyData:= .tuple [.int k.1,.tuple (k.2.map PyData.int)]
theorem mw{h:Heap}:∀{vs:List Value} {ns:List Int},IntsAre vs ns→∃ as,ReadsAll h vs (ns.map PyData.int) as
 |_,_,.nil=>⟨[],.nil⟩
 |_,_,.cons n t r=>by
  obtain⟨as,x⟩:=mw (h:=h) r
  exact⟨_,.cons (.int n t) x⟩
theorem PairAt.reads{h:Heap}{k:Int×List Int}{a:Addr}(x:PairAt h k a):∃ as,Reads h (.ref a) (qX k) as:=by
 obtain⟨b,t,vs,⟨o,h1,h2,m,h3⟩,⟨o',k1,k2,m',k3⟩,iv⟩:=x
 obtain⟨as,ra⟩:=mw (h:=h) iv
 exact⟨_,.tuple h1 h2 h3 (.cons (.int k.1 t) (.cons (.tuple k1 k2 k3 ra) .nil))⟩
theorem jL:∀{vs:List Value} {ns ms:List Int},IntsAre vs ns→IntsAre vs ms→ns=ms
 |_,_,_,.nil,.nil=>rfl
 |_,_,_,.cons n t r,.cons _ _ r'=>by rw[jL r r']
theorem om{h:Heap}{a:Addr}{x y:Array Value}(p:IsTup h a x)(q:IsTup h a y):x=y:=by
 obtain⟨o,h1,_,m,h3⟩:=p
 obtain⟨o',k1,_,m',k3⟩:=q
 rw[h1]at k1
 cases k1
 rw[h3]at k3
 cases k3
 rfl
theorem PairAt.inj{h:Heap}{a:Addr}{x y:Int×List Int}(p:PairAt h x a)(q:PairAt h y a):x=y:=by
 obtain⟨b,t,vs,p1,p2,p3⟩:=p
 obtain⟨b',t',vs',q1,q2,q3⟩:=q
 have e:=congrArg Array.toList (om p1 q1)
 simp only[List.cons.injEq,Value.int.injEq,Value.ref.injEq]at e
 obtain⟨⟨e1,_⟩,e2,_⟩:=e
 subst e2
 have e3:=congrArg Array.toList (om p2 q2)
 simp only at e3
 subst e3
 exact Prod.ext e1 (jL p3 q3)
theorem jE{h h':Heap}{a d:Addr}{x:Array Value}{o:Obj}{es ep}(p:IsTup h a x)(ho:h.get? d=some o)(hd:o.data= .dict es ep)(hs:Heap.SameBut d h h'):IsTup h' a x:=by
 obtain⟨o1,h1,h2,m,h3⟩:=p
 by_cases e:a=d
 ·rw[e,ho]at h1
  cases h1
  rw[hd]at h3
  cases h3
 ·exact⟨o1,by rw[hs.2 a e,h1],h2,m,h3⟩
theorem gh:∀(ns ms:List Int),PyData.eqvAll (ns.map PyData.int) (ms.map PyData.int)=decide (ns=ms)
 |[],[]=>rfl
 |[],_::_=>rfl
 |_::_,[]=>rfl
 |n::ns,m::ms=>by
  show(PyData.eqv (.int n) (.int m)&&PyData.eqvAll (ns.map PyData.int) (ms.map PyData.int))=_
  rw[gh ns ms]
  show((n==m)&&_)=_
  by_cases e:n=m
  ·by_cases f:ns=ms
   ·simp[e,f]
   ·simp[e,f]
  ·simp[e]
theorem yw(x y:Int×List Int):PyData.eqv (qX x) (qX y)=decide (x=y):=by
 show((x.1==y.1)&&(PyData.eqvAll (x.2.map PyData.int) (y.2.map PyData.int)&&true))=_
 rw[gh]
 obtain⟨a,b⟩:=x
 obtain⟨c,d⟩:=y
 by_cases e:a=c
 ·by_cases f:b=d
  ·simp[e,f]
  ·simp[e,f]
 ·simp[e]
theorem l4:∀ ns:List Int,PyData.canLayAll0 (ns.map PyData.int)=true
 |[]=>rfl
 |n::ns=>by
  show(PyData.canLay0 (.int n)&&PyData.canLayAll0 (ns.map PyData.int))=true
  rw[l4 ns]
  rfl
theorem qy(k:Int×List Int):(qX k).canLay0=true:=by
 show(PyData.canLay0 (.int k.1)&&(PyData.canLayAll0 (k.2.map PyData.int)&&true))=true
 rw[l4]
 rfl
theorem hU:∀ ns:List Int,PyData.depthAll (ns.map PyData.int)=0
 |[]=>rfl
 |n::ns=>by
  show max (PyData.depth (.int n)) (PyData.depthAll (ns.map PyData.int))=0
  rw[hU ns]
  rfl
theorem lQ(k:Int×List Int):(qX k).depth=2:=by
 show max (PyData.depth (.int k.1)) (max (PyData.depthAll (k.2.map PyData.int)+1) 0)+1=2
 rw[hU]
 rfl
theorem sG:∀{vs:List Value} {ns:List Int},IntsAre vs ns→∀{v:Value},v∈vs→∃ i t,v=Value.int i t
 |_,_,.cons n t r,v,h=>by
  rcases mem_cons.mp h with e|e
  ·exact⟨n,t,e⟩
  ·exact sG r e
def yc(k:Int×List Int):Int:=reduceHash (Builtin.Tuple.tupleHashOf [hashInt k.1,reduceHash (Builtin.Tuple.tupleHashOf (k.2.map hashInt))])
def gk(prog:Program)(w:World):HeapKind prog w (Int×List Int) where
 is:=PairAt
 hash:=yc
 draws:=fun k=>k.2.length+3
 room:=fun A=>A.units+2<cLine
 inj:=PairAt.inj
 keeps:=fun⟨b,t,vs,p1,p2,p3⟩ ho hd hs=>⟨b,t,vs,jE p1 ho hd hs,jE p2 ho hd hs,p3⟩
 pyHash:=by
  rintro A E s k a Q hu ⟨b,t,vs,p1,p2,p3⟩ q
  have hu':A.units+2<cLine:=hu
  have inner:=yp (prog:=prog) (w:=w) (A:=A.in1) (show A.units+1<cLine by omega) p2 (uZ (A:=A.in1.in1) p3)
  have outer:=yp (prog:=prog) (w:=w) (A:=A) (by omega) p1 (.cons (xw k.1 t) (.cons inner .nil))
  refine outer E s Q rfl ?_
  have e:1+(vs.length+1+0)+1=k.2.length+3:=by
   rw[← IntsAre.length p3]
   omega
  rw[e]
  exact q
 eqBool:=by
  intro A E s x y a b Q hu hx hy q
  obtain⟨as,r1⟩:=hx.reads
  obtain⟨bs,r2⟩:=hy.reads
  refine SeqAt.eqAt_reads _ _ A s _ _ as bs r1 r2 (qy x) (qy y) ?_ prog w E Q ?_
  ·rw[lQ,lQ]
   exact hu
  ·rw[yw]
   exact q
 quiet:=by
  rintro A E s k a Q ⟨b,t,vs,p1,p2,p3⟩ q
  refine oD (n:=7) p1 (fun v hv E Q q=>?_) q
  rcases mem_cons.mp hv with rfl|hv
  ·rw[eqIsQuiet_byValue _ rfl]
   exact wpAny_pure q
  ·have e:v= .ref b:=by simpa using hv
   subst e
   refine oD (n:=6) p2 (fun v hv E Q q=>?_) q
   have:=sG p3 (show v∈vs by simpa using hv)
   obtain⟨i,t',rfl⟩:=this
   rw[eqIsQuiet_byValue _ rfl]
   exact wpAny_pure q
end
section
variable{prog:Program}{w:World}{κ:Type}[DecidableEq κ]{knd:HeapKind prog w κ}{A:Around}{E:Value→Shared→Prop}{s:Shared}
theorem qU{d a:Addr}{xs:List (κ×Addr×Value)}{k:κ}{v:Value}{Q:Value→Shared→Prop}(hu:knd.room A)(hk:knd.is s.heap k a)(D:s.heap.DictOfH knd d xs)(hz:xs.length≤sizeLine)
  (old:∀ p,atKey xs k=some p→Q p.2 {s with toks:=s.toks+knd.draws k })
  (new:atKey xs k=none→∀ h',h'.DictOfH knd d (xs++[(k,a,v)])→Heap.SameBut d s.heap h'→Q v {s with heap:=h',toks:=s.toks+knd.draws k }):
  wpAny (model prog w) A (dictSetDefault d (.ref a) v) Q E s:=by
 obtain⟨o,es,ep,d1,d2,d3,d4,d5,d6⟩:=D
 unfold dictSetDefault
 refine wpAny_holding (wpAny_bind (knd.pyHash hu hk (wpAny_bind (wpAny_dictFind_heap (s:={s with toks:=s.toks+knd.draws k }) hu hk d1 d3 d4 d5 d6 (fun no=>?_) fun j p hj=>?_))))
 ·have fresh:=not_mem_keys_of_get no
  have sz:=size_of_entries d4
  refine wpAny_bind (wpAny_rule (wpAny_bind (wpAny_updateDictKeys (hz:=by omega) (s:={s with toks:=s.toks+knd.draws k }) d1 d3 (wpAny_pure (new (atKey_none_of_get no) _ ?_ (Heap.SameBut.update ..))))))
  refine⟨_,_,ep+1,Heap.get?_update_self _ d1 (Obj.isFreed_of_dict (Obj.data_mapDictKeys d3 _)),d2.mapDictKeys _,Obj.data_mapDictKeys d3 _,by simp[d4,entryOfKey],fun x hx=>?_,?_⟩
  ·have sb:Heap.SameBut d s.heap (s.heap.update d (Obj.mapDictKeys (·.push ⟨knd.hash k,.ref a,v⟩))):=Heap.SameBut.update ..
   rcases mem_append.mp hx with m|m
   ·exact knd.keeps (d5 x m) d1 d3 sb
   ·have e:x=(k,a,v):=by simpa using m
    rw[e]
    exact knd.keeps hk d1 d3 sb
  ·rw[map_append]
   exact nodup_append.mpr ⟨d6,by simp,fun x hx y hy e=>fresh (by
    have:y=k:=by simpa using hy
    rw[← this,← e]
    exact hx)⟩
 ·refine wpAny_bind (wpAny_dictEntries (s:={s with toks:=s.toks+knd.draws k }) d1 d3 ?_)
  rw[entry_at d4 j,hj]
  exact wpAny_bind (wpAny_rule (wpAny_pure (old p (atKey_of_get d6 hj))))
theorem iA(knd:HeapKind prog w κ)(d a:Addr)(hd:(d==sysModules)=false)(v:Value):
  MeetsIn prog w (Builtin.«dict.setdefault» ⟨[.ref d,.ref a,v],[]⟩) (fun A R s=>knd.room A.in1∧∃ k xs,knd.is s.heap k a∧s.heap.DictOfH knd d xs∧xs.length≤sizeLine∧
   (∀ p,atKey xs k=some p→R (.ok (.ret p.2)) {s with toks:=s.toks+knd.draws k })∧
   (atKey xs k=none→∀ h',h'.DictOfH knd d (xs++[(k,a,v)])→Heap.SameBut d s.heap h'→R (.ok (.ret v)) {s with heap:=h',toks:=s.toks+knd.draws k })):=
 .of_wp fun A R s ⟨hu,k,xs,hk,D,hz,old,new⟩=>by
  have run:wpAny (model prog w) A.in1 (dictSetDefault d (.ref a) v >>= ret) (fun fin s'=>∃ x,fin= .done (.ret x)∧R (.ok (.ret x)) s') (fun e s'=>R (.error e) s') s:=
   wpAny_bind (qU hu hk D hz (fun p hp=>wpAny_pure ⟨_,rfl,old p hp⟩) fun no h' D' sb=>wpAny_pure ⟨_,rfl,new no h' D' sb⟩)
  unfold Builtin.«dict.setdefault» Builtin.Dict.keyAndDefault
  refine wpAny_bind (wpAny_bind (wpAny_notOrdered_dict D.typeIs (wpAny_pure (a:=(d,Value.ref a,some v)) ?_)))
  show wpAny _ _ (if(d==sysModules)=true then _ else(dictSetDefault d (.ref a) v >>= ret)) _ _ s
  rw[hd,if_neg (by decide)]
  exact run
end
theorem Same.new{H:Hp}{l:Addr}{o:HO}(h:H l=none):Same H (upd H l o):=fun b u e=>by
 rw[ao (aL e h)]
 exact e
theorem Same.put{G H:Hp}{l:Addr}{o:HO}(s:Same G H)(h:G l=none):Same G (upd H l o):=fun b u e=>by
 rw[ao (aL e h)]
 exact s b u e
section
variable{X:Cx}{o e f:Expr}{apos cpos:Pos}{td ty tx:TE}
def tSdT(td ty tx:TE):TE:=fun σ H Q=>td σ H fun x H1=>∃ a,x= .ref a∧IsD H1 a∧ty σ H1 fun y H2=>tx σ H2 fun z H3=>∃ kvs k b,H3 a=some (.dT kvs)∧y= .ref b∧H3 b=some (.tup (k.map kV))∧kvs.length<sizeLine∧
 (∀ v,bj kvs k=some v→Q v H3)∧(bj kvs k=none→Q z (upd H3 a (.dT (kvs++[(k,z)]))))
theorem AC(hu:X.A.units+1<cLine)(ho:PE X o td)(he:PE X e ty)(hf:PE X f tx)(m:M2 X o "setdefault" apos e f cpos):PE X (.Call (.Attribute o "setdefault" apos) [e,f] [] cpos) (tSdT td ty tx):=by
 intro pins s σ H Q I h
 refine wpAny_Call_method m.base m.few m.line PySem.F.plainAttrs_dict PySem.F.slot_dict_setdefault PySem.F.type_dict_setdefault (thn (ho pins s σ H _ I h) fun u s1 ⟨x,H1,I1,rx,a,ex,d,q1⟩=>?_)
 subst ex
 obtain rfl:u=Value.ref a:=rx
 obtain⟨t1,t2,_⟩:=pP I1 d
 refine⟨t1,t2,?_⟩
 rw[m.trees]
 refine Calls.callWith_builtin rfl (Calls.evalArgs_plain (Calls.spliced_cons (thn (he pins s1 σ H1 _ I1 q1) fun iv s2 ⟨y,H2,I2,ry,q2⟩=>
  Calls.spliced_cons (thn (hf pins s2 σ H2 _ I2 q2) fun fv s3 ⟨z,H3,I3,rz,kvs,k,b,ea,ey,eb,hl,q3,q4⟩=>Calls.spliced_nil ?_))))
 subst ey
 obtain rfl:iv=Value.ref b:=ry
 obtain⟨hz,hd,xs,rel,dd⟩:=xy I3.hok ea
 have hx:xs.length≤sizeLine:=by rw[← Paired.length rel];exact hz
 refine call_meetsIn PySem.F.slot_dict_setdefault dd.typeIs PySem.F.entry_dict_setdefault (PySem.F.args_dict_setdefault_3 _ _ _) (iA (tupleKind (a7 X.prog X.w)) a b hd fv) ⟨tupleKind_room_in1 hu,k,xs,fT I3.hok eb,dd,hx,fun p hp=>?_,fun no h' dd' hs=>?_⟩
 ·have r:=rel.val k
  rw[hp]at r
  cases l:bj kvs k with
  |none=>rw[l]at r;exact r.elim
  |some v=>rw[l]at r;exact⟨v,H3,I3.tok _,r,q3 v l⟩
 ·have r:=rel.val k
  rw[no]at r
  have l:bj kvs k=none:=by
   cases l:bj kvs k with
   |none=>rfl
   |some v=>rw[l]at r;exact r.elim
  obtain⟨q,es,ep,hq,h2,h3,h4,_,h5⟩:=dd'
  have nlen:(kvs++[(k,z)]).length≤sizeLine:=by rw[length_append,length_singleton];omega
  have kt:KT (upd H3 a (.dT (kvs++[(k,z)]))) (kvs++[(k,z)]) (xs++[(k,b,fv)]):=KT.keeps (H:=H3) (Paired.snoc rel ⟨rfl,eb,rz⟩) fun c ys ec=>by
   rw[ao (dY ec ea (fun z=>nomatch z))]
   exact ec
  have ob:ObjOk X.prog X.w (upd H3 a (.dT (kvs++[(k,z)]))) h' a (.dT (kvs++[(k,z)])):=⟨nlen,hd,_,kt,q,es,ep,hq,h2,h3,h4,h5⟩
  exact⟨z,_,eN I3 (by rw[ea];exact True.intro) hs ⟨q,hq⟩ ob,rz,q4 l⟩
def iF(H:Hp)(k:Int×List Int)(a:Addr):Prop:=∃ b,H a=some (.tup [.int k.1,.ref b])∧H b=some (.tup (k.2.map V.int))
def atN(kvs:List ((Int×List Int)×Addr×V))(k:Int×List Int):Option (Addr×V):=(kvs.find? fun x=>decide (x.1=k)).map (·.2)
def DN(P:Program)(w:World)(a:Addr)(kvs:List ((Int×List Int)×Addr×V)):HO:= .ext fun h=>kvs.length≤sizeLine∧(a==sysModules)=false∧∃ xs:List ((Int×List Int)×Addr×Value),
 Paired (fun(p:(Int×List Int)×Addr×V) (q:(Int×List Int)×Addr×Value)=>p.1=q.1∧p.2.1=q.2.1∧RelV p.2.2 q.2.2) kvs xs∧
 ∃ o es ep,h.get? a=some o∧o.ExactDict∧o.data= .dict es ep∧es.toList=xs.map (entryOfKey (gk P w))∧(xs.map (·.1)).Nodup
theorem uQ{P:Program}{w:World}{H:Hp}{h:Heap}{k:Int×List Int}{a:Addr}(ok:HOk P w H h)(x:iF H k a):PairAt h k a:=by
 obtain⟨b,h1,h2⟩:=x
 obtain⟨_,its,r1,t1⟩:=(show ObjOk P w H h a (.tup [.int k.1,.ref b])from ok a _ h1)
 obtain⟨_,its2,r2,t2⟩:=(show ObjOk P w H h b (.tup (k.2.map V.int))from ok b _ h2)
 cases r1 with
 |cons r rr=>
  cases rr with
  |cons r' rr=>
   cases rr
   obtain⟨t,rfl⟩:=r
   obtain rfl:=(show _=Value.ref b from r')
   exact⟨b,t,its2,t1,t2,mq r2⟩
theorem xI{kvs:List ((Int×List Int)×Addr×V)}{xs:List ((Int×List Int)×Addr×Value)}(r:Paired (fun(p:(Int×List Int)×Addr×V) (q:(Int×List Int)×Addr×Value)=>p.1=q.1∧p.2.1=q.2.1∧RelV p.2.2 q.2.2) kvs xs)(k:Int×List Int):
  RelO ((atN kvs k).map (·.2)) ((atKey xs k).map (·.2)):=by
 induction r with
 |nil=>exact True.intro
 | @cons p q ps qs h t ih=>
  obtain⟨h1,_,h2⟩:=h
  by_cases e:p.1=k
  ·have a1:atN (p::ps) k=some p.2:=by simp[atN,List.find?_cons,e]
   have a2:atKey (q::qs) k=some q.2:=by simp[atKey,List.find?_cons,← h1,e]
   rw[a1,a2];exact h2
  ·have a1:atN (p::ps) k=atN ps k:=by simp[atN,List.find?_cons,e]
   have a2:atKey (q::qs) k=atKey qs k:=by simp[atKey,List.find?_cons,← h1,e]
   rw[a1,a2];exact ih
theorem x8{P:Program}{w:World}{H:Hp}{h:Heap}(ok:HOk P w H h):∀{kvs:List ((Int×List Int)×Addr×V)} {xs:List ((Int×List Int)×Addr×Value)},Paired (fun(p:(Int×List Int)×Addr×V) (q:(Int×List Int)×Addr×Value)=>p.1=q.1∧p.2.1=q.2.1∧RelV p.2.2 q.2.2) kvs xs→
  (∀ x,x∈kvs→iF H x.1 x.2.1)→∀ x∈xs,(gk P w).is h x.1 x.2.1
 |_,_,.nil,_,x,hx=>nomatch hx
 |_,_,.cons (a:=p) hq t,all,x,hx=>by
  rcases mem_cons.mp hx with e|e
  ·subst e
   obtain⟨e1,e2,_⟩:=hq
   rw[← e1,← e2]
   exact uQ ok (all p mem_cons_self)
  ·exact x8 ok t (fun x hx=>all x (mem_cons_of_mem _ hx)) x e
theorem dn_of{P:Program}{w:World}{H:Hp}{h:Heap}{a:Addr}{kvs:List ((Int×List Int)×Addr×V)}(ok:HOk P w H h)(e:H a=some (DN P w a kvs))(all:∀ x,x∈kvs→iF H x.1 x.2.1):kvs.length≤sizeLine∧(a==sysModules)=false∧
  ∃ xs,Paired (fun(p:(Int×List Int)×Addr×V) (q:(Int×List Int)×Addr×Value)=>p.1=q.1∧p.2.1=q.2.1∧RelV p.2.2 q.2.2) kvs xs∧h.DictOfH (gk P w) a xs:=by
 obtain⟨⟨hz,hd,xs,rel,o,es,ep,h1,h2,h3,h4,h5⟩,_⟩:=(show ObjOk P w H h a (DN P w a kvs)from ok a _ e)
 exact⟨hz,hd,xs,rel,o,es,ep,h1,h2,h3,h4,x8 ok rel all,h5⟩
theorem xF{P:Program}{w:World}{H':Hp}{h':Heap}{a:Addr}{kvs:List ((Int×List Int)×Addr×V)}{xs:List ((Int×List Int)×Addr×Value)}(hz:kvs.length≤sizeLine)(hd:(a==sysModules)=false)
  (rel:Paired (fun(p:(Int×List Int)×Addr×V) (q:(Int×List Int)×Addr×Value)=>p.1=q.1∧p.2.1=q.2.1∧RelV p.2.2 q.2.2) kvs xs) (dd:h'.DictOfH (gk P w) a xs):ObjOk P w H' h' a (DN P w a kvs):=by
 obtain⟨o,es,ep,h1,h2,h3,h4,_,h5⟩:=dd
 exact⟨⟨hz,hd,xs,rel,o,es,ep,h1,h2,h3,h4,h5⟩,⟨o,h1⟩,fun g1 g2 ⟨z1,z2,ys,z3,o',es',ep',y1,y2,y3,y4,y5⟩ k=>⟨z1,z2,ys,z3,o',es',ep',k o' y1,y2,y3,y4,y5⟩⟩
def zZ(P:Program)(w:World):TE:=fun _ H Q=>∀ p,H p=none→Q (.ref p) (upd H p (DN P w p []))
theorem xj{pos:Pos}:PE X (.Dict [] [] pos) (zZ X.prog X.w):=fun pins s σ H Q I h=>by
 have big:=I.big
 refine wpAny_Dict_empty ⟨.ref s.heap.objs.size,_,I.laid (a:=s.heap.objs.size) (o:=DN X.prog X.w s.heap.objs.size []) (t':=s.toks) (fun _ _ q=>Heap.get?_push_of_some _ q) (le_refl _) (xF (zero_le _) ?_ .nil (Heap.DictOfH.new _)),rfl,h _ (I.hok.fresh (le_refl _))⟩
 exact beq_eq_false_iff_ne.mpr (Nat.ne_of_gt big)
def tSdN(P:Program)(w:World)(td ty tx:TE):TE:=fun σ H Q=>td σ H fun x H1=>∃ a kv0,x= .ref a∧H1 a=some (DN P w a kv0)∧ty σ H1 fun y H2=>tx σ H2 fun z H3=>∃ kvs k t,H3 a=some (DN P w a kvs)∧y= .ref t∧iF H3 k t∧
 (∀ x,x∈kvs→iF H3 x.1 x.2.1)∧kvs.length<sizeLine∧(∀ p,atN kvs k=some p→Q p.2 H3)∧(atN kvs k=none→Q z (upd H3 a (DN P w a (kvs++[(k,t,z)]))))
theorem Ag(hu:X.A.units+3<cLine)(ho:PE X o td)(he:PE X e ty)(hf:PE X f tx)(m:M2 X o "setdefault" apos e f cpos):PE X (.Call (.Attribute o "setdefault" apos) [e,f] [] cpos) (tSdN X.prog X.w td ty tx):=by
 intro pins s σ H Q I h
 refine wpAny_Call_method m.base m.few m.line PySem.F.plainAttrs_dict PySem.F.slot_dict_setdefault PySem.F.type_dict_setdefault (thn (ho pins s σ H _ I h) fun u s1 ⟨x,H1,I1,rx,a,kv0,ex,d,q1⟩=>?_)
 subst ex
 obtain rfl:u=Value.ref a:=rx
 obtain⟨⟨_,_,_,_,oo,_,_,w1,w2,_⟩,_⟩:=(show ObjOk X.prog X.w H1 s1.heap a (DN X.prog X.w a kv0)from I1.hok a _ d)
 refine⟨⟨oo,w1,w2.1⟩,fun b z=>?_,?_⟩
 ·cases z
  exact⟨oo,w1,w2.2.1⟩
 rw[m.trees]
 refine Calls.callWith_builtin rfl (Calls.evalArgs_plain (Calls.spliced_cons (thn (he pins s1 σ H1 _ I1 q1) fun iv s2 ⟨y,H2,I2,ry,q2⟩=>
  Calls.spliced_cons (thn (hf pins s2 σ H2 _ I2 q2) fun fv s3 ⟨z,H3,I3,rz,kvs,k,b,ea,ey,eb,all,hl,q3,q4⟩=>Calls.spliced_nil ?_))))
 subst ey
 obtain rfl:iv=Value.ref b:=ry
 obtain⟨hz,hd,xs,rel,dd⟩:=dn_of I3.hok ea all
 have hx:xs.length≤sizeLine:=by rw[← Paired.length rel];exact hz
 refine call_meetsIn PySem.F.slot_dict_setdefault dd.typeIs PySem.F.entry_dict_setdefault (PySem.F.args_dict_setdefault_3 _ _ _) (iA (gk X.prog X.w) a b hd fv) ⟨(show X.A.units+1+2<cLine from hu),k,xs,uQ I3.hok eb,dd,hx,fun p hp=>?_,fun no h' dd' hs=>?_⟩
 ·have r:=xI rel k
  rw[hp]at r
  cases l:atN kvs k with
  |none=>rw[l]at r;exact r.elim
  |some v=>rw[l]at r;exact⟨v.2,H3,I3.tok _,r,q3 v l⟩
 ·have r:=xI rel k
  rw[no]at r
  have l:atN kvs k=none:=by
   cases l:atN kvs k with
   |none=>rfl
   |some v=>rw[l]at r;exact r.elim
  have nlen:(kvs++[(k,b,z)]).length≤sizeLine:=by rw[length_append,length_singleton];omega
  have hq:∃ q,h'.get? a=some q:=let⟨q,_,_,hq,_⟩:=dd';⟨q,hq⟩
  exact⟨z,_,eN I3 (by rw[ea];exact True.intro) hs hq (xF nlen hd (Paired.snoc rel ⟨rfl,rfl,rz⟩) dd'),rz,q4 l⟩
def tUpd(td ty:TE):TE:=fun σ H Q=>td σ H fun x H1=>∃ a,x= .ref a∧IsD H1 a∧ty σ H1 fun y H2=>∃ b kvs more,y= .ref b∧a≠b∧H2 a=some (.dK kvs)∧H2 b=some (.dK more)∧kvs.length+more.length≤sizeLine∧(cZ kvs more).length≤sizeLine∧Q .non (upd H2 a (.dK (cZ kvs more)))
theorem ou(ho:PE X o td)(he:PE X e ty)(m:M1 X o "update" apos e cpos):PE X (.Call (.Attribute o "update" apos) [e] [] cpos) (tUpd td ty):=by
 intro pins s σ H Q I h
 refine wpAny_Call_method m.base m.few m.line PySem.F.plainAttrs_dict PySem.F.slot_dict_update PySem.F.type_dict_update (thn (ho pins s σ H _ I h) fun u s1 ⟨x,H1,I1,rx,a,ex,d,q1⟩=>?_)
 subst ex
 obtain rfl:u=Value.ref a:=rx
 obtain⟨t1,t2,_⟩:=pP I1 d
 refine⟨t1,t2,?_⟩
 rw[m.trees]
 refine Calls.callWith_builtin rfl (Calls.evalArgs_plain (Calls.spliced_cons (thn (he pins s1 σ H1 _ I1 q1) fun iv s2 ⟨y,H2,I2,ry,b,kvs,more,ey,hab,ea,eb,hl,hz,q2⟩=>Calls.spliced_nil ?_)))
 subst ey
 obtain rfl:iv=Value.ref b:=ry
 obtain⟨_,hd,vs,rel,dd⟩:=nH I2.hok ea
 obtain⟨_,hd2,vs2,rel2,dd2⟩:=nH I2.hok eb
 refine call_meetsIn PySem.F.slot_dict_update dd.typeIs PySem.F.entry_dict_update (PySem.F.args_dict_update_2 _ _) (meets_dict_update (a7 X.prog X.w) a b hab hd2) ⟨vs,vs2,dd,dd2,by rw[← Paired.length rel,← Paired.length rel2];exact hl,fun h' dd' _ hs=>?_⟩
 have hq:∃ q,h'.get? a=some q:=let⟨q,_,_,hq,_⟩:=dd';⟨q,hq⟩
 exact⟨.non,_,eN (t':=s2.toks) I2 (by rw[ea];exact True.intro) hs hq (tJ hz hd (KV.merge rel2 rel) dd'),rfl,q2⟩
end
section
variable{X:Cx}
def AH:List V→Hp→VK→Prop:=fun vs H Q=>(∃ j,vs=[.int j]∧∀ p,H p=none→Q (.ref p) (upd H p (.rng 0 j)))∨∃ i j,vs=[.int i,.int j]∧∀ p,H p=none→Q (.ref p) (upd H p (.rng i j))
theorem eE:dr X (.type "range") AH:=by
 intro pins s σ H vs us Q I r h
 rcases h with⟨j,rfl,q⟩|⟨i,j,rfl,q⟩
 ·obtain⟨u,rfl,t,rfl⟩:=jI r
  refine call_range_1 ⟨.ref s.heap.objs.size,_,I.laid (o:= .rng 0 j) (fun b o e=>Heap.get?_push_of_some _ e) (le_refl _) ⟨_,_,_,Heap.get?_push_size _ rfl⟩,rfl,q _ (I.hok.fresh (le_refl _))⟩
 ·cases r with
  |cons r1 r2=>
   cases r2 with
   |cons r2 r3=>
    cases r3
    obtain⟨t,rfl⟩:=r1
    obtain⟨u,rfl⟩:=r2
    exact call_range_2 ⟨.ref s.heap.objs.size,_,I.laid (o:= .rng i j) (fun b o e=>Heap.get?_push_of_some _ e) (le_refl _) ⟨_,_,_,Heap.get?_push_size _ rfl⟩,rfl,q _ (I.hok.fresh (le_refl _))⟩
theorem kZ{P:Nat→Value→Prop}{acc:Array Value}{xs:List V}(h:ItemsOf P acc xs.length)(rel:∀(j:Nat) (v:V) (u:Value),xs[j]?=some v→P j u→RelV v u):Vals xs acc.toList:=by
 have aux:∀(xs:List V) (us:List Value),us.length=xs.length→(∀(j:Nat) (v:V) (u:Value),xs[j]?=some v→us[j]?=some u→RelV v u)→Vals xs us:=by
  intro xs
  induction xs with
  |nil=>
   intro us hl _
   have:us=[]:=length_eq_zero_iff.mp hl
   subst this
   exact .nil
  |cons x xs ih=>
   intro us hl hr
   cases us with
   |nil=>simp at hl
   |cons u us=>exact .cons (hr 0 x u rfl rfl) (ih us (by simpa using hl) fun j v w h1 h2=>hr (j+1) v w (by simpa using h1) (by simpa using h2))
 refine aux xs acc.toList (by rw[Array.length_toList];exact h.1) fun j v u h1 h2=>rel j v u h1 (h.2 j u ?_)
 rw[← Array.getElem?_toList]
 exact h2
def Aq:List V→Hp→VK→Prop:=fun vs H Q=>∃ r i j,vs=[.ref r]∧H r=some (.rng i j)∧ -(2 ^ 20)≤i∧i≤2 ^ 20∧ -(2 ^ 20)≤j∧j≤2 ^ 20∧∀ p,H p=none→Q (.ref p) (upd H p (.lst ((List.range (j - i).toNat).map fun k=>V.int (i+(k:Nat)))))
theorem eg(hh:X.A.handled=none):dr X (.type "list") Aq:=by
 intro pins s σ H vs us Q I r h
 obtain⟨a,i,j,rfl,ha,h1,h2,h3,h4,q⟩:=h
 obtain⟨u,rfl,rx⟩:=jI r
 obtain rfl:=(show u=Value.ref a from rx)
 obtain⟨t,u,v,e⟩:=(show ObjOk X.prog X.w H s.heap a (.rng i j)from I.hok a _ ha)
 have sz:Builtin.Range.rangeSize i j 1=(((j - i).toNat:Nat):Int):=by rw[rangeSize_one];split<;>omega
 have hn:(j - i).toNat≤2 ^ 24:=by omega
 refine call_list_range hh (show IsRange s.heap a i j 1 t u v from e) (small_one (by omega) (by omega) (by omega) (by omega)) sz hn fun h' tk acc c hk hS hacc=>?_
 have hl:((List.range (j - i).toNat).map fun k=>V.int (i+(k:Nat))).length=(j - i).toNat:=by simp
 refine⟨.ref s.heap.objs.size,_,I.laid (t':=tk) (o:= .lst ((List.range (j - i).toNat).map fun k=>V.int (i+(k:Nat)))) hk (le_refl _) ⟨by rw[hl,sizeLine_eq];exact hn,acc.toList,c,?_,by simpa using hS⟩,rfl,q _ (I.hok.fresh (le_refl _))⟩
 refine kZ (by rw[hl];exact hacc) fun k v u hv hu=>?_
 obtain⟨t,rfl⟩:=hu
 rw[List.getElem?_map]at hv
 cases e:(List.range (j - i).toNat)[k]? with
 |none=>rw[e]at hv;cases hv
 |some m=>
  rw[e]at hv
  have hm:m=k:=by
   obtain⟨hb,hg⟩:=List.getElem?_eq_some_iff.mp e
   rw[← hg,List.getElem_range]
  subst hm
  cases hv
  exact⟨t,by simp⟩
theorem jN:∀(l σ:List Int),σ.Nodup→(l.foldl step_dedup σ).Nodup
 |[],σ,h=>h
 |a::l,σ,h=>by
  rw[foldl_cons]
  refine jN l _ ?_
  unfold step_dedup
  split
  ·exact h
  ·rename_i hn
   refine nodup_append.mpr ⟨h,by simp,fun x hx y hy e=>hn ?_⟩
   have:y=a:=by simpa using hy
   rw[List.any_eq_true]
   exact⟨x,hx,by simp[e,this]⟩
theorem ma(ns:List Int):GS.Kinds ns (firstMet (fun i=>ns.getD i 0) ns.length).length:=by
 have hm:(List.range ns.length).map (fun i=>ns.getD i 0)=ns:=by
  refine ext_getElem? fun i=>?_
  rw[List.getElem?_map]
  by_cases h:i<ns.length
  ·rw[List.getElem?_range h,List.getElem?_eq_getElem h]
   simp[getD_eq_getElem?_getD,h]
  ·rw[List.getElem?_eq_none (by simpa using h),List.getElem?_eq_none (by simpa using h)]
   rfl
 refine⟨_,jN _ [] nodup_nil,fun x=>?_,rfl⟩
 have:=firstMet_any (fun i=>ns.getD i 0) ns.length x
 rw[hm]at this
 have e:(firstMet (fun i=>ns.getD i 0) ns.length).any (· ==x)=true↔ns.any (· ==x)=true:=by rw[this]
 show x∈firstMet (fun i=>ns.getD i 0) ns.length↔x∈ns
 simpa [List.any_eq_true]using e
def rSet(K:Frag):List V→Hp→VK→Prop:=fun vs H Q=>∃(a:Addr) (ns:List Int),vs=[.ref a]∧SqL K H a (ns.map V.int)∧ns.length+1<scanBound∧∀ p S n,H p=none→GS.Kinds ns n→Q (.ref p) (upd H p (.set S n))
theorem Ac(hh:X.A.handled=none):dr X (.type "set") (rSet X.K):=by
 intro pins s σ H vs us Q I r h
 obtain⟨a,ns,rfl,hs,hb,q⟩:=h
 obtain⟨u,rfl,rx⟩:=jI r
 obtain rfl:=(show u=Value.ref a from rx)
 obtain⟨its,rv,pl,hz⟩:=I.list hs
 have hl:its.length=ns.length:=by rw[← rv.length,length_map]
 refine call_set_list (ns:=ns) hh pl.isList (by simpa using mq rv) (by simp only[size_toArray];omega) fun h' tk hS hk=>?_
 have e:its.toArray.size=ns.length:=by simp[hl]
 rw[e]at hS
 refine⟨.ref s.heap.objs.size,_,I.laid (t':=tk) (o:= .set _ _) (fun b o hb=>hk b o (Heap.lt_size hb) hb) (le_refl _) hS,rfl,q _ _ _ (I.hok.fresh (le_refl _)) (ma ns)⟩
def rLenS:List V→Hp→VK→Prop:=fun vs H Q=>∃ a S n,vs=[.ref a]∧H a=some (.set S n)∧Q (.int n) H
theorem zo:dr X (.builtin "len") rLenS:=by
 intro pins s σ H vs us Q I r h
 obtain⟨a,S,n,rfl,ha,q⟩:=h
 obtain⟨u,rfl,rx⟩:=jI r
 obtain rfl:=(show u=Value.ref a from rx)
 obtain⟨o,es,ep,t,h1,h2,h3,_,_,h4,h5,h6⟩:=(show ObjOk X.prog X.w H s.heap a (.set S n)from I.hok a _ ha)
 have hb:(es.size:Int)<2 ^ 63:=by
  have:scanBound≤2 ^ 62:=by decide +kernel
  omega
 exact call_len_set h1 h2 h3 h5 hb ⟨.int n,H,I.tok _,⟨_,by rw[h6]⟩,q⟩
theorem zi{s:Shared}{A:Around}{kvs2:List (Key×V)}{kb:List (Key×Value)}(rb:KV kvs2 kb)(ib:∀ p,p∈kvs2→∃ i,p.2=V.int i):∀{kvs:List (Key×V)} {ka:List (Key×Value)},KV kvs ka→(∀ p,p∈kvs→∃ i,p.2=V.int i)→(∀ p,p∈kvs→(bj kvs2 p.1).isSome=true)→
  PySem.W.KeqHits A s kb ka (kvs.all fun p=>decide (bj kvs2 p.1=some p.2)):=by
 intro kvs ka ra
 unfold KV at ra
 induction ra with
 |nil=>exact fun _ _=> .nil
 | @cons p q ps qs h t ih=>
  intro ia sub
  obtain⟨e1,e2⟩:=h
  obtain⟨i,ei⟩:=ia p mem_cons_self
  rw[ei]at e2
  obtain⟨tk,et⟩:=e2
  have hv:=rb.val p.1
  cases hf:bj kvs2 p.1 with
  |none=>
   have:=sub p mem_cons_self
   rw[hf]at this
   cases this
  |some y=>
   rw[hf]at hv
   have hy:∃ j,y=V.int j:=by
    unfold bj at hf
    obtain⟨kv,h1,h2⟩:=Option.map_eq_some_iff.mp hf
    obtain⟨j,ej⟩:=ib kv (List.mem_of_find?_eq_some h1)
    exact⟨j,by rw[← h2,ej]⟩
   obtain⟨j,rfl⟩:=hy
   obtain⟨v,hvk,rv⟩:=RelO.some_of (v:=V.int j) (o:=valueAt kb p.1) hv
   obtain⟨t2,rfl⟩:=rv
   have q1:q=(p.1,Value.int i tk):=Prod.ext e1.symm et
   rw[q1,all_cons,hf,ei]
   have ee:decide (some (V.int j)=some (V.int i))=(i==j):=by
    by_cases z:i=j
    ·simp[z]
    ·have z':¬ j=i:=fun w=>z w.symm
     simp[z,z']
   rw[ee]
   exact .hit hvk (SeqAt.EqAt.int_int i tk j t2) (ih (fun p hp=>ia p (mem_cons_of_mem _ hp)) fun p hp=>sub p (mem_cons_of_mem _ hp))
def rNeK:R2:=fun x y H Q=>∃ a b kvs kvs2,x= .ref a∧y= .ref b∧H a=some (.dK kvs)∧H b=some (.dK kvs2)∧(∀ p,p∈kvs→∃ i,p.2=V.int i)∧(∀ p,p∈kvs2→∃ i,p.2=V.int i)∧(∀ p,p∈kvs→(bj kvs2 p.1).isSome=true)∧
 kvs.length=kvs2.length∧Q (.bl (!(kvs.all fun p=>decide (bj kvs2 p.1=some p.2)))) H
theorem Al(hu:X.A.units+1<cLine):OpR X (compareOp .NotEq) rNeK:=by
 intro pins s σ H x y v u Q I rx ry h
 obtain⟨a,b,kvs,kvs2,rfl,rfl,ha,hb,ia,ib,sub,hl,q⟩:=h
 obtain rfl:=(show v=Value.ref a from rx)
 obtain rfl:=(show u=Value.ref b from ry)
 obtain⟨_,hd,vs,rel,dd⟩:=nH I.hok ha
 obtain⟨_,hd2,vs2,rel2,dd2⟩:=nH I.hok hb
 have e1:kvs.length=vs.length:=rel.length
 have e2:kvs2.length=vs2.length:=rel2.length
 refine PySem.W.keq_ne hd hd2 dd dd2 (by omega) (fun _=>zi rel2 ib rel ia sub) ⟨.bl _,H,I,rfl,?_⟩
 have:(vs.length==vs2.length)=true:=by
  rw[beq_iff_eq]
  omega
 rw[this,Bool.true_and]
 exact q
end
section
variable{prog:Program}{w:World}{A:Around}{E:Value→Shared→Prop}{s:Shared}
def RawD(h:Heap)(d:Addr)(es:Array DictEntry)(ep:Nat):Prop:=∃ o,h.get? d=some o∧o.ExactDict∧o.data= .dict es ep
theorem RawD.mono{h h':Heap}{d:Addr}{es:Array DictEntry}{ep:Nat}(x:RawD h d es ep)(k:∀ o,h.get? d=some o→h'.get? d=some o):RawD h' d es ep:=let⟨o,a,b,c⟩:=x;⟨o,k o a,b,c⟩
theorem tO(d:Addr)(hd:(d==sysModules)=false):MeetsIn prog w (Builtin.«dict.values» ⟨[.ref d],[]⟩) (fun _ R s=>s.TypeIs (.ref d) "dict"∧R (.ok (.ret (.ref s.heap.objs.size))) {s with heap:=s.heap.push {cls:= .type "dict_values",data:= .fields #[.ref d] } }):=
 .of_wp fun A R s ⟨T,h⟩=>by
  have made:wpAny (model prog w) A.in1 (Builtin.Dict.showsAll d >>= fun _=>newFields "dict_values" [.ref d] >>= ret) (fun fin s'=>∃ v,fin= .done (.ret v)∧R (.ok (.ret v)) s') (fun e s'=>R (.error e) s') s:=by
   unfold Builtin.Dict.showsAll
   rw[hd,if_neg (by decide)]
   exact wpAny_bind (wpAny_pure (wpAny_bind (wpAny_newObj_type (wpAny_pure ⟨_,rfl,h⟩))))
  refine wpAny_bind (m:=Builtin.Dict.noArgs "values" ⟨[.ref d],[]⟩) ?_
  unfold Builtin.Dict.noArgs
  exact wpAny_bind (wpAny_notOrdered_dict T (wpAny_pure (a:=d) made))
theorem yB{it d:Addr}{i n ep:Nat}{es:Array DictEntry}{en:DictEntry}{Q:Option Value→Shared→Prop}(J:s.heap.IsValIter it d i n ep)(D:RawD s.heap d es ep)(hn:es.size=n)(hx:es[i]?=some en)
  (q:∀ h',h'.IsValIter it d (i+1) n ep→Heap.SameBut it s.heap h'→Q (some en.val) {s with heap:=h' }):wpAny (model prog w) A (pyNext (.ref it)) Q E s:=by
 have T:=J.typeIs
 obtain⟨o,j1,j2,j3⟩:=id J
 obtain⟨od,d1,_,d3⟩:=D
 obtain⟨lt,eq⟩:=Array.getElem?_eq_some_iff.mp hx
 have own:Builtin.Dict_items.ownsTuple "dict_valueiterator"=false:=by decide
 have J':(s.heap.update it (Obj.mapFields (·.setIfInBounds 1 (rawInt ((i:Int)+1))))).IsValIter it d (i+1) n ep:=
  ⟨_,Heap.get?_update_self _ j1 (Obj.isFreed_of_fields (Obj.data_mapFields j3 _)),by rw[Obj.cls_mapFields];exact j2,by rw[Obj.data_mapFields j3];simp[rawInt]⟩
 have T':Shared.TypeIs {s with heap:=s.heap.update it (Obj.mapFields (·.setIfInBounds 1 (rawInt ((i:Int)+1)))) } (.ref it) "dict_valueiterator":=J'.typeIs
 unfold pyNext
 refine wpAny_bind (wpAny_attempt (wpAny_callSpecial?_slot (name:=Str.ofString "__next__") T PySem.F.slot_dict_valueiterator_next (wpAny_call_entry PySem.F.slot_dict_valueiterator_next T PySem.F.entry_dict_valueiterator_next ?_ (PySem.F.args_dict_valueiterator_next_1 _))))
 refine wpAny_bind (wpAny_pure (wpAny_bind (wpAny_bind (wpAny_bind (wpAny_typeNameOfWhole_valiter T (wpAny_pure ?_))))))
 refine wpAny_bind (wpAny_fieldsOf j1 j3 ?_)
 simp only[own,Bool.false_eq_true,if_false]
 show wpAny _ _ (if(Value.ref d==Value.none)=true then _ else _) _ _ s
 rw[if_neg (fun z:(Value.ref d==Value.none)=true=>nomatch z)]
 refine wpAny_bind (wpAny_pure (wpAny_bind (wpAny_dictEntries d1 d3 ?_)))
 rw[if_neg (by rw[hn];simp)]
 refine wpAny_bind (wpAny_pure (wpAny_bind (wpAny_dictEpoch d1 d3 ?_)))
 rw[if_neg (by simp)]
 refine wpAny_pure ?_
 simp only[show ¬((i:Int)<0)from by omega,if_false,Int.toNat_natCast,Array.getElem?_eq_getElem lt]
 refine wpAny_bind (wpAny_bind (wpAny_typeNameOfWhole_valiter T (wpAny_pure (wpAny_bind (wpAny_isOneOf_valiter T ?_)))))
 show wpAny _ _ (setField (.ref it) 1 (rawInt ((i:Int)+1)) >>= _) _ _ s
 refine wpAny_bind (wpAny_setField j1 j3 (by simp) (wpAny_bind (wpAny_holding (wpAny_bind (wpAny_isOneOf_valiter T' (wpAny_bind (wpAny_isOneOf_valiter T' ?_)))))))
 show wpAny _ _ (pure (es[i]'lt).val) _ _ _
 rw[eq]
 exact wpAny_pure (wpAny_pure ⟨_,rfl,wpAny_pure (q _ J' (Heap.SameBut.update ..))⟩)
theorem pw{it d:Addr}{i n ep:Nat}{es:Array DictEntry}{Q:Option Value→Shared→Prop}(hh:A.handled=none)(J:s.heap.IsValIter it d i n ep)(D:RawD s.heap d es ep)(hn:es.size=n)(hi:n≤i)
  (q:∀ h',Heap.ExtBut it s.heap h'→Q none {s with heap:=h' }):wpAny (model prog w) A (pyNext (.ref it)) Q E s:=by
 have T:=J.typeIs
 obtain⟨o,j1,j2,j3⟩:=id J
 obtain⟨od,d1,_,d3⟩:=D
 have own:Builtin.Dict_items.ownsTuple "dict_valueiterator"=false:=by decide
 unfold pyNext
 refine wpAny_bind (wpAny_attempt (wpAny_callSpecial?_slot (name:=Str.ofString "__next__") T PySem.F.slot_dict_valueiterator_next (wpAny_call_entry PySem.F.slot_dict_valueiterator_next T PySem.F.entry_dict_valueiterator_next ?_ (PySem.F.args_dict_valueiterator_next_1 _))))
 refine wpAny_bind (wpAny_pure (wpAny_bind (wpAny_bind (wpAny_bind (wpAny_typeNameOfWhole_valiter T (wpAny_pure ?_))))))
 refine wpAny_bind (wpAny_fieldsOf j1 j3 ?_)
 simp only[own,Bool.false_eq_true,if_false]
 show wpAny _ _ (if(Value.ref d==Value.none)=true then _ else _) _ _ s
 rw[if_neg (fun z:(Value.ref d==Value.none)=true=>nomatch z)]
 refine wpAny_bind (wpAny_pure (wpAny_bind (wpAny_dictEntries d1 d3 ?_)))
 rw[if_neg (by rw[hn];simp)]
 refine wpAny_bind (wpAny_pure (wpAny_bind (wpAny_dictEpoch d1 d3 ?_)))
 rw[if_neg (by simp)]
 refine wpAny_pure ?_
 simp only[show ¬((i:Int)<0)from by omega,if_false,Int.toNat_natCast,Array.getElem?_eq_none (show es.size≤i by omega)]
 refine wpAny_bind (wpAny_bind (wpAny_typeNameOfWhole_valiter T (wpAny_pure ?_)))
 show wpAny _ _ (setField (.ref it) 0 .none >>= _) _ _ s
 refine wpAny_bind (wpAny_setField j1 j3 (by simp) ?_)
 show wpAny _ _ (newExc (.type "StopIteration") [] >>= _) _ _ _
 refine wpAny_bind ?_
 simp only[newExc,newTuple]
 refine wpAny_bind (wpAny_newObj_type ?_ (by size_fits))
 refine wpAny_bind (m:=firstArgMember _ _) (wpAny_of_eq (a:=Value.none) (by first|rfl|(simp only[firstArgMember];rfl)) ?_)
 refine wpAny_newObj_type ?_ (by size_fits)
 simp only[raiseNew]
 refine wpAny_bind (wpAny_handled ?_)
 rw[show A.in1.handled=none from hh]
 refine wpAny_bind (wpAny_pure (wpAny_throw ?_))
 refine wpAny_bind (wpAny_isInstance (T:="StopIteration") (b:=true) ⟨_,Heap.get?_push_size _ rfl,rfl⟩ isSubtype_stop ?_)
 exact wpAny_pure (q _ (((Heap.SameBut.update ..).extBut.push _).push _))
theorem uj(hh:A.handled=none)(it d:Addr)(ne:d≠it)(es:Array DictEntry)(ep:Nat):
  Walks prog w A it [it,d] [it] es.size (fun i v=>∃ en,es[i]?=some en∧v=en.val) (fun i h=>h.IsValIter it d i es.size ep∧RawD h d es ep) where
 sub:=fun b hb=>mem_cons.mpr (.inl (mem_singleton.mp hb))
 frame:=fun _ _ _ st hk=>⟨let⟨o,e,x⟩:=st.1;⟨o,hk it (by simp) o e,x⟩,st.2.mono fun o e=>hk d (by simp) o e⟩
 item:=fun i s Q E hi st hQ=>yB st.1 st.2 rfl (Array.getElem?_eq_getElem hi) fun h' J' sb=>hQ _ h' s.toks ⟨_,Array.getElem?_eq_getElem hi,rfl⟩ ⟨J',st.2.mono fun o e=>(sb.2 d ne).trans e⟩ fun b o hb e=>(sb.2 b (fun z=>hb (by simp[z]))).trans e
 done:=fun s Q E st hQ=>pw hh st.1 st.2 rfl (le_refl _) fun h' eb=>hQ h' s.toks fun b o hb e=>eb b o (fun z=>hb (by simp[z])) e
 self:=fun i s Q E st q=>wpAny_pyIter_valiter st.1 q
theorem wj{v d:Addr}{es:Array DictEntry}{ep:Nat}{Q:Value→Shared→Prop}(V:s.heap.IsValuesView v d)(D:RawD s.heap d es ep)
  (q:Q (.ref s.heap.objs.size) {s with heap:=s.heap.push {cls:= .type "dict_valueiterator",data:= .fields #[.ref d,.int 0 0,.int es.size 0,.int ep 0] } }):wpAny (model prog w) A (pyIter (.ref v)) Q E s:=by
 have T:=V.typeIs
 obtain⟨ov,v1,_,v3⟩:=id V
 obtain⟨o,d1,d2,d3⟩:=D
 refine wpAny_pyIter_slot T PySem.F.slot_dict_values_iter (wpAny_call_entry PySem.F.slot_dict_values_iter T PySem.F.entry_dict_values_iter ?_ (PySem.F.args_dict_values_iter_1 _))
 unfold Builtin.«dict_values.__iter__» Builtin.Dict_items.dictOf Builtin.Dict_items.newIterator
 refine wpAny_bind (wpAny_pure (wpAny_bind (wpAny_bind (wpAny_field v1 v3 (x:= .ref d) rfl (wpAny_pure (wpAny_bind (wpAny_bind (wpAny_dictEntries d1 d3 (wpAny_bind (wpAny_dictEpoch d1 d3 ?_))))))))))
 have own:Builtin.Dict_items.ownsTuple "dict_valueiterator"=false:=by decide
 simp only[own,Bool.false_eq_true,if_false]
 exact wpAny_newObj_type (wpAny_pure ⟨_,rfl,"dict_valueiterator",_,⟨_,Heap.get?_push_size _ rfl,rfl⟩,PySem.F.slot_dict_valueiterator_next.lookup,by simpa [rawInt]using q⟩)
theorem yg(r d:Addr)(es:Array DictEntry)(ep:Nat):PySem.W.KdlSrc prog w "dict_values" r d es.size (fun i v=>∃ en,es[i]?=some en∧v=en.val) (fun h=>h.IsValuesView r d∧RawD h d es ep) where
 type:=fun s hm=>hm.1.typeIs
 there:=fun _ hm=>⟨let⟨_,e,_⟩:=hm.1;Heap.lt_size e,let⟨_,e,_⟩:=hm.2;Heap.lt_size e⟩
 keep:=fun _ _ hm hk=>⟨let⟨o,e,x⟩:=hm.1;⟨o,hk r (.inl rfl) o e,x⟩,hm.2.mono fun o e=>hk d (.inr rfl) o e⟩
 notList:=by decide
 notTuple:=by decide
 hint:=fun _ _ _ _ hm hq=>PySem.W.kdl_hint_values hm.1.typeIs hq
 iter:=fun _ s hh hm=>⟨_,_,(fun _ _ hq=>wj hm.1 hm.2 hq),uj hh _ d (ne_of_lt (let⟨_,e,_⟩:=hm.2;Heap.lt_size e)) es ep,⟨⟨_,Heap.get?_push_size _ rfl,rfl,rfl⟩,hm.2.mono fun o e=>Heap.get?_push_of_some _ e⟩⟩
end
def VW(v d:Addr):HO:= .ext fun h=>h.IsValuesView v d
section
variable{X:Cx}{o e:Expr}{apos cpos:Pos}{td:TE}
def tVals(td:TE):TE:=fun σ H Q=>td σ H fun x H1=>∃ d,x= .ref d∧IsD H1 d∧∀ v,H1 v=none→Q (.ref v) (upd H1 v (VW v d))
theorem oU(ho:PE X o td)(hbase:attributeBase o "values" X.env (eval o X.env)=eval o X.env:=by rfl)(hline:(apos.endLine==cpos.line)=true:=by rfl):PE X (.Call (.Attribute o "values" apos) [] [] cpos) (tVals td):=by
 intro pins s σ H Q I h
 refine wpAny_Call_method (T:="dict") (id:="dict.values") hbase rfl hline PySem.F.plainAttrs_dict PySem.F.slot_dict_values PySem.F.type_dict_values (thn (ho pins s σ H _ I h) fun u s1 ⟨x,H1,I1,rx,d,ex,hd,q⟩=>?_)
 subst ex
 obtain rfl:u=Value.ref d:=rx
 obtain⟨t1,t2,t3⟩:=pP I1 hd
 refine⟨t1,t2,?_⟩
 show wpAny _ _ (callWith cpos (.builtin "dict.values") [.ref d] [] []) _ X.xe s1
 refine method_meetsIn PySem.F.slot_dict_values PySem.F.entry_dict_values rfl (PySem.evalArgs_none ⟨rfl,t1,PySem.F.args_dict_values_1 _,_,tO d t3,t1,?_⟩)
 exact⟨.ref s1.heap.objs.size,_,I1.laid (o:=VW s1.heap.objs.size d) (t':=s1.toks) (fun b o e=>Heap.get?_push_of_some _ e) (le_refl _) ⟨⟨_,Heap.get?_push_size _ rfl,rfl,rfl⟩,⟨_,Heap.get?_push_size _ rfl⟩,fun h1 h2 ⟨o,a,b⟩ k=>⟨o,k o a,b⟩⟩,rfl,q _ (I1.hok.fresh (le_refl _))⟩
theorem AE{P:Program}{w:World}{H:Hp}{h:Heap}{d:Addr}{vals:List V}(ok:HOk P w H h)(hd:(∃ kvs:List (Key×V),Rd H d (.dK kvs)∧vals=kvs.map (·.2))∨∃ kvs:List (List Key×V),Rd H d (.dT kvs)∧vals=kvs.map (·.2)):
  vals.length≤sizeLine∧∃ es ep,RawD h d es ep∧es.size=vals.length∧∀(i:Nat) (v:V) (en:DictEntry),vals[i]?=some v→es[i]?=some en→RelV v en.val:=by
 rcases hd with⟨kvs,e,rfl⟩|⟨kvs,e,rfl⟩
 ·obtain⟨hz,_,vs,rel,o,es,ep,d1,d2,d3,d4,d5,d6⟩:=iG ok e
  have hl:kvs.length=vs.length:=rel.length
  have hs:es.size=vs.length:=by rw[← d5.length];simp
  refine⟨by rw[length_map];exact hz,es,ep,⟨o,d1,d2,d3⟩,by rw[length_map];omega,fun i v en hv hen=>?_⟩
  rw[List.getElem?_map]at hv
  obtain⟨kv,h1,rfl⟩:=Option.map_eq_some_iff.mp hv
  obtain⟨u,h2,ru⟩:=yC rel (k:=kv.1) (v:=kv.2) h1
  have:=(d5.get? (e:=en) (by rw[Array.getElem?_toList];exact hen) h2).2
  rw[this]
  exact ru
 ·obtain⟨hz,_,xs,rel,o,es,ep,d1,d2,d3,d4,d5,d6⟩:=jA ok e
  have hl:kvs.length=xs.length:=Paired.length rel
  have hs:=size_of_entries d4
  refine⟨by rw[length_map];exact hz,es,ep,⟨o,d1,d2,d3⟩,by rw[length_map];omega,fun i v en hv hen=>?_⟩
  rw[List.getElem?_map]at hv
  obtain⟨kv,h1,rfl⟩:=Option.map_eq_some_iff.mp hv
  obtain⟨x,h2,r2⟩:=mK rel h1
  rw[entry_at d4 i,h2]at hen
  cases hen
  exact r2.2.2
def An:List V→Hp→VK→Prop:=fun vs H Q=>∃ v d vals,vs=[.ref v]∧H v=some (VW v d)∧((∃ kvs:List (Key×V),Rd H d (.dK kvs)∧vals=kvs.map (·.2))∨∃ kvs:List (List Key×V),Rd H d (.dT kvs)∧vals=kvs.map (·.2))∧∀ p,H p=none→Q (.ref p) (upd H p (.lst vals))
theorem kT(hh:X.A.handled=none):dr X (.type "list") An:=by
 intro pins s σ H vs us Q I r h
 obtain⟨v,d,vals,rfl,hv,hd,q⟩:=h
 obtain⟨u,rfl,rx⟩:=jI r
 obtain rfl:=(show u=Value.ref v from rx)
 obtain⟨V,_⟩:=(show ObjOk X.prog X.w H s.heap v (VW v d)from I.hok v _ hv)
 obtain⟨hz,es,ep,D,hs,rel⟩:=AE I.hok hd
 refine PySem.W.kdl_call (yg v d es ep) hh ⟨V,D⟩ (by omega) fun h' tk acc c hk hS hacc=>?_
 refine⟨.ref s.heap.objs.size,_,I.laid (t':=tk) (o:= .lst vals) hk (le_refl _) ⟨hz,acc.toList,c,?_,by simpa using hS⟩,rfl,q _ (I.hok.fresh (le_refl _))⟩
 refine kZ (by rw[← hs];exact hacc) fun j x u hx hu=>?_
 obtain⟨en,e1,rfl⟩:=hu
 exact rel j x en hx e1
end
def zB(tk tv:TE):TE:=fun σ H Q=>∀ p,H p=none→tk σ (upd H p (.dT [])) fun x H1=>tv σ H1 fun z H2=>H2 p=some (.dT [])∧∃ k b,x= .ref b∧H2 b=some (.tup (k.map kV))∧Q (.ref p) (upd H2 p (.dT [(k,z)]))
theorem wQ{X:Cx}{pos:Pos}{k v:Expr}{tk tv:TE}(hu:X.A.units<cLine)(hk:PE X k tk)(hv:PE X v tv):PE X (.Dict [some k] [v] pos) (zB tk tv):=by
 intro pins s σ H Q I q
 have hn:=I.hok.fresh (le_refl s.heap.objs.size)
 have I1:=I.laid (a:=s.heap.objs.size) (o:= .dT []) (h':=s.heap.push {cls:= .type "dict",data:= .dict #[] }) (t':=s.toks) (fun _ _ q=>Heap.get?_push_of_some _ q) (le_refl _) (ql s.heap I.big)
 refine wpAny_Dict_any rfl rfl (List.cons_ne_nil _ _) (by decide:1≤15) (pairTrees_cons_walk (thn (hk pins _ σ _ _ I1 (q _ hn)) fun u s1 ⟨x,H1,I2,rx,q1⟩=>thn (hv pins s1 σ H1 _ I2 q1) fun w2 s2 ⟨z,H2,I3,rz,e,ks,b,ex,eb,q2⟩=>pairTrees_nil_walk ?_))
 subst ex
 obtain rfl:u=Value.ref b:=rx
 obtain⟨_,hd,xs,rel,dd⟩:=xy I3.hok e
 have hz:xs.length≤sizeLine:=by rw[← Paired.length rel];exact zero_le _
 unfold storeAll
 rw[List.forIn_cons]
 refine wpAny_bind (wpAny_bind (wpAny_dictSet_heap (hsz:=hz) (show(tupleKind (a7 X.prog X.w)).room X.A from hu) (fT I3.hok eb) dd fun h' dd' hs=>wpAny_pure ?_))
 show wpAny _ _ (forIn [] _ _) _ _ _
 rw[List.forIn_nil]
 refine wpAny_pure ⟨.ref s.heap.objs.size,_,?_,rfl,q2⟩
 obtain⟨o,es,ep,hq,h2,h3,h4,_,h5⟩:=dd'
 refine eN I3 (by rw[e];exact True.intro) hs ⟨o,hq⟩ ⟨le_of_lt (aC (show 1≤1000 by decide)),hd,_,(rel.put ks eb rz).keeps fun c ys ec=>?_,o,es,ep,hq,h2,h3,h4,h5⟩
 rw[ao (dY ec e (fun z=>nomatch z))]
 exact ec
end L2
namespace GP
open PySem PySem.Spec PyProof.Rows L2
variable{P:Program}{w:World}{K:Frag}{mg:Str→Option Value}{base:Heap}
def top(i:Nat):Stmt:=PySem.Challenge.pw_graphsame_s01_answers.main.body.getD i (.Pass ⟨0,0,0,0⟩)
structure Txt(K:Frag)(mg:Str→Option Value):Prop where
 len:mg "len"=none
 range:mg "range"=none
 sum:mg "sum"=none
 sorted:mg "sorted"=none
 tuple:mg "tuple"=none
 list:mg "list"=none
 set:mg "set"=none
 min:mg "min"=none
 zip:mg "zip"=none
 all:mg "all"=none
 chosen:∃ t,mg "CHOSEN"=some (.int (-1) t)
 placed:∃ t,mg "PLACED"=some (.int (-1) t)
 limit:∃ t,mg "LIMIT"=some (.int 18446744073709551616 t)
structure Cal(P:Program)(w:World)(K:Frag)(mg:Str→Option Value)(base:Heap)(k:Nat)(x:Str)(ps:List Str)(sp:Sp)(f:Addr)(fd:FuncData):Prop where
 ok:FnOk P w K mg base CX0 k f fd ps sp
 mg:mg x=some (.ref f)
 kp:keepIn K (.ref f)=true
 bd:Binds K fd ps []
theorem aq{X:Cx}{k:Nat}{x:Str}{ps:List Str}{sp:Sp}{f:Addr}{fd:FuncData}{p pos:Pos}{e:Expr}{es:List Expr}{t:TA}(C:Cal X.prog X.w X.K X.mg X.base k x ps sp f fd)(hr:Room k X.A)(ha:PA X (e::es) t)(hg:Gl X x:=by rfl)
  (hdb:(x==("__debug__":Str))=false:=by decide) (he:starEach (e::es) X.env=(false,eval e X.env)::starEach es X.env:=by rfl) (hpl:(backTo pos (starEach es X.env)).any (·.1)=false:=by rfl):PE X (.Call (.Name x p) (e::es) [] pos) (zM sp [] E0 t):=
 zE C.ok hr hg C.mg C.kp C.bd .nil pass0 ha hdb he hpl
structure iM(J:It)(H:Hp)(n:Nat)(xv:Nat→V→Hp→Prop):Prop where
 go:∀ i H',i<n→Same H H'→J.go i H'
 stop:∀ H',Same H H'→J.stop n H'
 yld:∀ i H1 x H2,i<n→Same H H1→J.yld i H1 x H2→Same H1 H2∧xv i x H2
theorem aN{K:Frag}{H:Hp}{a:Addr}{xs:List V}(h:SqL K H a xs):iM (Itl K a) H xs.length (fun i x _=>xs[i]?=some x):=
 ⟨fun i H' hi s=>⟨xs,xs[i],s.seq h,by simp[hi]⟩,fun H' s=>⟨xs,s.seq h,le_refl _⟩,fun i H1 x H2 hi s y=>⟨y.1▸Same.refl _,y.2 xs (s.seq h)⟩⟩
theorem Same.tup{K:Frag}{H H':Hp}{a:Addr}{xs:List V}(e:Same H H')(h:H a=some (.tup xs)):SqT K H' a xs:=SqT.of (e _ _ h)
theorem yy{K:Frag}{H:Hp}{a:Addr}{xs:List V}(h:H a=some (.tup xs)):iM (Itt K a) H xs.length (fun i x _=>xs[i]?=some x):=
 ⟨fun i H' hi s=>⟨xs,xs[i],Same.tup s h,by simp[hi]⟩,fun H' s=>⟨xs,Same.tup s h,le_refl _⟩,fun i H1 x H2 hi s y=>⟨y.1▸Same.refl _,y.2 xs (Same.tup s h)⟩⟩
theorem bR{H:Hp}(lo:Int)(n:Nat):iM (Itr lo n) H n (fun i x _=>x= .int (lo+(i:Nat))):=
 ⟨fun i H' hi s=>hi,fun H' s=>le_refl _,fun i H1 x H2 hi s y=>⟨y.1▸Same.refl _,y.2⟩⟩
theorem qE{H:Hp}(lo c:Int)(n:Nat):iM (Itc lo c n) H n (fun i x _=>x= .int (lo+(i:Nat)*c)):=
 ⟨fun i H' hi s=>hi,fun H' s=>le_refl _,fun i H1 x H2 hi s y=>⟨y.1▸Same.refl _,y.2⟩⟩
theorem gE{H:Hp}{d:Addr}{o:Obj}{kvs:List (Key×V)}(h:H d=some (.frz o (.dK kvs))):iM (Itk d o kvs) H kvs.length (fun i x _=>∃ k v,kvs[i]?=some (k,v)∧x=kV k):=
 ⟨fun i H' hi s=>⟨s _ _ h,hi⟩,fun H' s=>⟨s _ _ h,le_refl _⟩,fun i H1 x H2 hi s y=>⟨y.1▸Same.refl _,y.2⟩⟩
theorem mS{H:Hp}{d:Addr}{o:Obj}{kvs:List (List Key×V)}(h:H d=some (.frz o (.dT kvs))):iM (za d o kvs) H kvs.length (fun i x H2=>∃(k:List Key) (v:V) (q:Addr),kvs[i]?=some (k,v)∧x= .ref q∧H2 q=some (.tup (k.map kV))):=
 ⟨fun i H' hi s=>⟨s _ _ h,hi⟩,fun H' s=>⟨s _ _ h,le_refl _⟩,fun i H1 x H2 hi s y=>by
  obtain⟨rfl,k,v,q,a,b,c⟩:=y
  exact⟨Same.refl _,k,v,q,a,b,c⟩⟩
theorem sI{K:Frag}{H:Hp}{a b:Addr}{xs ys:List V}(hx:SqL K H a xs)(hy:SqL K H b ys)(hl:xs.length=ys.length):iM (Itz K a b) H xs.length (fun i x H2=>∃ T u v,x= .ref T∧H2 T=some (.tup [u,v])∧xs[i]?=some u∧ys[i]?=some v):=
 ⟨fun i H' hi s=>⟨xs,ys,xs[i],ys[i]'(by omega),s.seq hx,s.seq hy,by simp[hi],by rw[List.getElem?_eq_getElem (show i<ys.length by omega)]⟩,fun H' s=>⟨xs,ys,s.seq hx,s.seq hy,.inl (le_refl _)⟩,fun i H1 x H2 hi s y=>by
  obtain⟨T,u,v,rfl,hT,rfl,h1,h2⟩:=y
  exact⟨Same.new hT,T,u,v,rfl,ah,h1 xs (s.seq hx),h2 ys (s.seq hy)⟩⟩
theorem bN{J:It}{H0:Hp}{n:Nat}{xv:Nat→V→Hp→Prop}(O:iM J H0 n xv){g:TG}{tb:TS}{D:rG}{σ:L2.St}{H:Hp}(Pv:Nat→L2.St→Hp→Prop)(h0:Pv 0 σ H)(sm:∀ i σ H',Pv i σ H'→Same H0 H')(mono:∀ i σ H' H2,Pv i σ H'→Same H' H2→(∃ x,J.yld i H' x H2)→Pv i σ H2)
  (hs:∀ i x σ H',i<n→Pv i σ H'→xv i x H'→g x σ H' fun σ2 H2=>tb {D with nx:=Pv (i+1),ct:=Pv (i+1),bk:=D.nx } σ2 H2) (hd:∀ σ H',Pv n σ H'→D.nx σ H'):
  ∃ W:Nat→Nat→L2.St→Hp→Prop,(∃ m,W 0 m σ H)∧∀ i m σ H,W i m σ H→
   (J.stop i H∧D.nx σ H)∨(J.go i H∧∃ N:L2.St→Hp→Prop,(∀ σ' H',N σ' H'→∃ m',m'<m∧W (i+1) m' σ' H')∧∀ x H',J.yld i H x H'→g x σ H' fun σ2 H2=>tb {D with nx:=N,ct:=N,bk:=D.nx } σ2 H2):=by
 refine⟨fun i m σ H=>m=n - i∧i≤n∧Pv i σ H,⟨n,by simp,zero_le _,h0⟩,?_⟩
 rintro i m σ H ⟨rfl,hi,p⟩
 by_cases hlt:i<n
 ·refine .inr ⟨O.go i H hlt (sm i σ H p),Pv (i+1),fun σ' H' p'=>⟨n - (i+1),by omega,rfl,hlt,p'⟩,fun x H' y=>?_⟩
  obtain⟨s1,v1⟩:=O.yld i H x H' hlt (sm i σ H p) y
  exact hs i x σ H' hlt (mono i σ H H' p s1 ⟨x,y⟩) v1
 ·have e:i=n:=by omega
  subst e
  exact .inl ⟨O.stop H (sm _ σ H p),hd σ H p⟩
def Calm(J:It):Prop:=∀ i H x H',J.yld i H x H'→H'=H
theorem calm_list{K:Frag}{a:Addr}:Calm (Itl K a):=fun _ _ _ _ y=>y.1
theorem calm_rangeC{lo c:Int}{n:Nat}:Calm (Itc lo c n):=fun _ _ _ _ y=>y.1
theorem calm_keys{d:Addr}{o:Obj}{kvs:List (Key×V)}:Calm (Itk d o kvs):=fun _ _ _ _ y=>y.1
theorem calm_keysT{d:Addr}{o:Obj}{kvs:List (List Key×V)}:Calm (za d o kvs):=fun _ _ _ _ y=>y.1
theorem Calm.mono{J:It}(c:Calm J){Pv:Nat→L2.St→Hp→Prop}:∀ i σ H' H2,Pv i σ H'→Same H' H2→(∃ x,J.yld i H' x H2)→Pv i σ H2:=fun i σ H' H2 p _ ⟨x,y⟩=>by
 rw[c i H' x H2 y]
 exact p
def But(D:Addr)(H H':Hp):Prop:=∀ b o,b≠D→H b=some o→H' b=some o
theorem rO{J:It}{H0 H1:Hp}{D:Addr}(hD:H1 D=none){n:Nat}{xv:Nat→V→Hp→Prop}(O:iM J H0 n xv)(s01:Same H0 H1){g:TG}{te:TE}{vs:List Nat}{σ:L2.St}{Qd:Hp→Prop}(R:Nat→V→Hp→Prop)(hn:n<sizeLine)(mono:∀ i y H H',But D H H'→R i y H→R i y H')
  (hs:∀(i:Nat) (x:V) (H':Hp) (C:VK) (N:Hp→Prop),i<n→Same H1 H'→H' D≠none→xv i x H'→(∀ y H4,Same H' H4→R i y H4→C y H4)→g x (wipe σ vs) H' fun σ2 H2=>wipe σ2 vs=wipe σ vs∧jX σ2 H2 fun b H3=>if b=true then te σ2 H3 C else N H3)
  (hd:∀ H' ys,Same H1 H'→H' D=some (.lst ys)→ys.length=n→(∀(i:Nat) (y:V),ys[i]?=some y→R i y H')→Qd H'):
  ∃ W:Nat→Nat→Hp→Prop,(∃ m,W 0 m (upd H1 D (.lst [])))∧∀ i m H,W i m H→
   (J.stop i H∧Qd H)∨(J.go i H∧∃ Nx:Hp→Prop,(∀ H',Nx H'→∃ m',m'<m∧W (i+1) m' H')∧∀ x H',J.yld i H x H'→g x (wipe σ vs) H' fun σ2 H2=>wipe σ2 vs=wipe σ vs∧jX σ2 H2 fun b H3=>
    if b=true then te σ2 H3 fun y H4=>∃ acc,H4 D=some (.lst acc)∧acc.length<sizeLine∧Nx (upd H4 D (.lst (acc++[y])))else Nx H3):=by
 let Pv:Nat→Hp→Prop:=fun i H=>Same H1 H∧∃ acc:List V,H D=some (.lst acc)∧acc.length=i∧∀(j:Nat) (y:V),acc[j]?=some y→R j y H
 refine⟨fun i m H=>m=n - i∧i≤n∧Pv i H,⟨n,by simp,zero_le _,Same.new hD,[],ah,rfl,fun j y z=>by simp at z⟩,?_⟩
 rintro i m H ⟨rfl,hi,sH,acc,hA,hl,hR⟩
 by_cases hlt:i<n
 ·refine .inr ⟨O.go i H hlt (s01.trans sH),Pv (i+1),fun H' p'=>⟨n - (i+1),by omega,rfl,hlt,p'⟩,fun x H' y=>?_⟩
  obtain⟨s1,v1⟩:=O.yld i H x H' hlt (s01.trans sH) y
  refine hs i x H' _ _ hlt (sH.trans s1) (by rw[s1 _ _ hA];simp) v1 fun y H4 s4 r4=>?_
  have hA4:H4 D=some (.lst acc):=s4 _ _ (s1 _ _ hA)
  have bt:But D H4 (upd H4 D (.lst (acc++[y]))):=fun b o hb e=>by rw[ao hb];exact e
  refine⟨acc,hA4,by rw[hl];exact Nat.lt_trans hlt hn,((sH.trans s1).trans s4).put hD,acc++[y],ah,by simp[hl],fun j u hu=>?_⟩
  by_cases hj:j<acc.length
  ·rw[List.getElem?_append_left hj]at hu
   exact mono j u _ _ (fun b o hb e=>bt b o hb (s4 b o (s1 b o e))) (hR j u hu)
  ·rw[List.getElem?_append_right (by omega)]at hu
   have hj0:j - acc.length=0:=by
    cases e:j - acc.length with
    |zero=>rfl
    |succ m=>rw[e]at hu;simp at hu
   rw[hj0]at hu
   have eu:y=u:=by simpa using hu
   have ej:j=i:=by omega
   rw[ej,← eu]
   exact mono i y _ _ bt r4
 ·have e:i=n:=by omega
  subst e
  exact .inl ⟨O.stop H (s01.trans sH),hd H acc sH hA hl hR⟩
theorem kF{J:It}{H0 H1:Hp}{D:Addr}(hD:H1 D=none){n:Nat}{xv:Nat→V→Hp→Prop}(O:iM J H0 n xv)(s01:Same H0 H1){g:TG}{te:TE}{vs:List Nat}{σ:L2.St}{Qd:Hp→Prop}(R:Nat→V→Hp→Prop)(hn:n≤1000)(mono:∀ i y H H',But D H H'→R i y H→R i y H')
  (hs:∀(i:Nat) (x:V) (H':Hp) (C:VK) (N:Hp→Prop),i<n→Same H1 H'→H' D≠none→xv i x H'→(∀ y H4,Same H' H4→R i y H4→C y H4)→g x (wipe σ vs) H' fun σ2 H2=>wipe σ2 vs=wipe σ vs∧jX σ2 H2 fun b H3=>if b=true then te σ2 H3 C else N H3)
  (hd:∀ H' ys,Same H1 H'→H' D=some (.lst ys)→ys.length=n→(∀(i:Nat) (y:V),ys[i]?=some y→R i y H')→Qd H'):
  ∃ W:Nat→Nat→Hp→Prop,(∃ m,W 0 m (upd H1 D (.lst [])))∧∀ i m H,W i m H→
   (J.stop i H∧Qd H)∨(J.go i H∧∃ Nx:Hp→Prop,(∀ H',Nx H'→∃ m',m'<m∧W (i+1) m' H')∧∀ x H',J.yld i H x H'→g x (wipe σ vs) H' fun σ2 H2=>wipe σ2 vs=wipe σ vs∧jX σ2 H2 fun b H3=>
    if b=true then te σ2 H3 fun y H4=>∃ acc,H4 D=some (.lst acc)∧acc.length<sizeLine∧Nx (upd H4 D (.lst (acc++[y])))else Nx H3):=
 rO hD O s01 R (aC hn) mono hs hd
theorem fi{J:It}{H0 H1:Hp}{D:Addr}(hD:H1 D=none){n:Nat}{xv:Nat→V→Hp→Prop}(O:iM J H0 n xv)(s01:Same H0 H1){g:TG}{tt:TT}{te:TE}{vs:List Nat}{σ:L2.St}{Qd:Hp→Prop}(p:Nat→Bool)(val:Nat→V)(hn:n≤1000)
  (hs:∀(i:Nat) (x:V) (H':Hp) (C:VK) (N:Hp→Prop),i<n→Same H1 H'→xv i x H'→(p i=true→∀ H4,Same H' H4→C (val i) H4)→(p i=false→∀ H4,Same H' H4→N H4)→g x (wipe σ vs) H' fun σ2 H2=>wipe σ2 vs=wipe σ vs∧tt σ2 H2 fun b H3=>if b=true then te σ2 H3 C else N H3)
  (hd:∀ H',Same H1 H'→H' D=some (.lst (((List.range n).filter p).map val))→Qd H'):
  ∃ W:Nat→Nat→Hp→Prop,(∃ m,W 0 m (upd H1 D (.lst [])))∧∀ i m H,W i m H→
   (J.stop i H∧Qd H)∨(J.go i H∧∃ Nx:Hp→Prop,(∀ H',Nx H'→∃ m',m'<m∧W (i+1) m' H')∧∀ x H',J.yld i H x H'→g x (wipe σ vs) H' fun σ2 H2=>wipe σ2 vs=wipe σ vs∧tt σ2 H2 fun b H3=>
    if b=true then te σ2 H3 fun y H4=>∃ acc,H4 D=some (.lst acc)∧acc.length<sizeLine∧Nx (upd H4 D (.lst (acc++[y])))else Nx H3):=by
 let Pv:Nat→Hp→Prop:=fun i H=>Same H1 H∧H D=some (.lst (((List.range i).filter p).map val))
 refine⟨fun i m H=>m=n - i∧i≤n∧Pv i H,⟨n,by simp,zero_le _,Same.new hD,ah⟩,?_⟩
 rintro i m H ⟨rfl,hi,sH,hA⟩
 by_cases hlt:i<n
 ·refine .inr ⟨O.go i H hlt (s01.trans sH),Pv (i+1),fun H' p'=>⟨n - (i+1),by omega,rfl,hlt,p'⟩,fun x H' y=>?_⟩
  obtain⟨s1,v1⟩:=O.yld i H x H' hlt (s01.trans sH) y
  refine hs i x H' _ _ hlt (sH.trans s1) v1 (fun hp H4 s4=>?_) (fun hp H4 s4=>?_)
  ·have hl:(((List.range i).filter p).map val).length≤i:=by
    rw[length_map]
    have:=length_filter_le p (List.range i)
    rw[length_range]at this
    exact this
   refine⟨_,s4 _ _ (s1 _ _ hA),aC (by omega),((sH.trans s1).trans s4).put hD,?_⟩
   rw[ah,range_succ,filter_append,map_append,filter_cons,if_pos hp]
   rfl
  ·refine⟨(sH.trans s1).trans s4,?_⟩
   rw[s4 _ _ (s1 _ _ hA),range_succ,filter_append,map_append,filter_cons,if_neg (by rw[hp];simp)]
   simp
 ·have e:i=n:=by omega
  subst e
  exact .inl ⟨O.stop H (s01.trans sH),hd H sH hA⟩
theorem zg{ys:List V}{n:Nat}{val:Nat→V}(hl:ys.length=n)(h:∀(i:Nat) (y:V),ys[i]?=some y→y=val i):ys=(List.range n).map val:=by
 refine ext_getElem? fun i=>?_
 by_cases hi:i<n
 ·rw[List.getElem?_map,List.getElem?_range hi,List.getElem?_eq_getElem (by omega)]
  exact congrArg some (h i _ (List.getElem?_eq_getElem (by omega)))
 ·rw[List.getElem?_eq_none (by omega),List.getElem?_eq_none (by simp;omega)]
theorem bA{J:It}{H0 H1:Hp}{D:Addr}(hD:H1 D=none){n:Nat}{xv:Nat→V→Hp→Prop}(O:iM J H0 n xv)(s01:Same H0 H1){g:TG}{te:TE}{vs:List Nat}{σ:L2.St}{Qd:Hp→Prop}(val:Nat→V)(hn:n≤1000)
  (hs:∀(i:Nat) (x:V) (H':Hp) (C:VK) (N:Hp→Prop),i<n→Same H1 H'→xv i x H'→(∀ H4,Same H' H4→C (val i) H4)→g x (wipe σ vs) H' fun σ2 H2=>wipe σ2 vs=wipe σ vs∧jX σ2 H2 fun b H3=>if b=true then te σ2 H3 C else N H3)
  (hd:∀ H',Same H1 H'→H' D=some (.lst ((List.range n).map val))→Qd H'):
  ∃ W:Nat→Nat→Hp→Prop,(∃ m,W 0 m (upd H1 D (.lst [])))∧∀ i m H,W i m H→
   (J.stop i H∧Qd H)∨(J.go i H∧∃ Nx:Hp→Prop,(∀ H',Nx H'→∃ m',m'<m∧W (i+1) m' H')∧∀ x H',J.yld i H x H'→g x (wipe σ vs) H' fun σ2 H2=>wipe σ2 vs=wipe σ vs∧jX σ2 H2 fun b H3=>
    if b=true then te σ2 H3 fun y H4=>∃ acc,H4 D=some (.lst acc)∧acc.length<sizeLine∧Nx (upd H4 D (.lst (acc++[y])))else Nx H3):=
 kF hD O s01 (fun i y _=>y=val i) hn (fun _ _ _ _ _ h=>h) (fun i x H' C N hi sH _ hx cont=>hs i x H' C N hi sH hx fun H4 s4=>cont _ H4 s4 rfl) fun H' ys sH hA hl hR=>hd H' sH (by rw[hA,zg hl hR])
theorem bY{α β:Type}(l:List α)(d:α)(f:α→β):(List.range l.length).map (fun i=>f (l.getD i d))=l.map f:=by
 refine ext_getElem? fun i=>?_
 rw[List.getElem?_map,List.getElem?_map]
 by_cases h:i<l.length
 ·rw[List.getElem?_range h,List.getElem?_eq_getElem h]
  simp[getD_eq_getElem?_getD,h]
 ·rw[List.getElem?_eq_none (by simpa using h),List.getElem?_eq_none (by omega)]
  rfl
theorem lcY{te:TE}{σ:L2.St}{H:Hp}{C:VK}{N:Hp→Prop}(h:te σ H C):jX σ H (fun b H3=>if b=true then te σ H3 C else N H3):=by
 show(if true=true then te σ H C else N H)
 rw[if_pos rfl]
 exact h
abbrev dct(ks:List Nat)(f:Nat→V):List (Key×V):=ks.map fun k=>((Sum.inl ((k:Nat):Int):Key),f k)
theorem bQ(f:Nat→V)(k:Nat):∀ ks:List Nat,bj (dct ks f) (Sum.inl (k:Int))=if k∈ks then some (f k)else none
 |[]=>rfl
 |a::ks=>by
  show bj (_::dct ks f) _=_
  by_cases e:a=k
  ·subst e
   rw[bI rfl,if_pos mem_cons_self]
  ·rw[bG (fun z=>e (by have:=Sum.inl.inj z;omega)),bQ f k ks]
   by_cases m:k∈ks
   ·rw[if_pos m,if_pos (mem_cons_of_mem _ m)]
   ·rw[if_neg m,if_neg (fun z=>by rcases mem_cons.mp z with z|z;exact e z.symm;exact m z)]
theorem cg(f:Nat→V)(k:Nat)(ks:List Nat):(bj (dct ks f) (Sum.inl (k:Int))).isSome=decide (k∈ks):=by
 rw[bQ]
 by_cases m:k∈ks<;>simp[m]
theorem cT{f:Nat→V}{k:Nat}{ks:List Nat}(h:k∉ks):cC (dct ks f) (Sum.inl (k:Int)) (f k)=dct (ks++[k]) f:=by
 rw[xV _ (by rw[bQ,if_neg h])]
 simp[dct]
theorem vd{f:Nat→V}{v:V}{k:Nat}{ks:List Nat}(h:k∈ks):cC (dct ks f) (Sum.inl (k:Int)) v=dct ks (fun x=>if x=k then v else f x):=by
 unfold cC
 rw[if_pos (by rw[ef,cg,decide_eq_true h])]
 unfold dct
 rw[map_map]
 refine map_congr_left fun x _=>?_
 show(if(Sum.inl ((x:Nat):Int):Key)=Sum.inl (k:Int)then _ else _)=_
 by_cases e:x=k
 ·subst e
  rw[if_pos rfl]
  simp
 ·rw[if_neg (fun z=>e (by have:=Sum.inl.inj z;omega))]
  simp[e]
theorem dX{f g:Nat→V}{ks:List Nat}(h:∀ k∈ks,f k=g k):dct ks f=dct ks g:=map_congr_left fun k hk=>by rw[h k hk]
theorem yP{f f':Nat→V}{k:Nat}{ks:List Nat}(h:k∉ks)(h1:∀ x∈ks,f' x=f x):cC (dct ks f) (Sum.inl (k:Int)) (f' k)=dct (ks++[k]) f':=by
 rw[← dX h1,cT h]
theorem aT(f:Nat→V)(ks:List Nat):(dct ks f).length=ks.length:=length_map ..
section
variable{X:Cx}{K:Frag}{e a b:Expr}{te ta tb:TE}{p pos:Pos}
def rLen(K:Frag):List V→Hp→VK→Prop:=fun xs H Q=>∃ p ys,xs=[.ref p]∧(SqL K H p ys∨SqT K H p ys)∧Q (.int (ys.length:Nat)) H
theorem aS(hK:X.K=K)(hm:X.mg "len"=none)(h:PE X e te)(hg:Gl X "len":=by rfl)(he:starEach [e] X.env=(false,eval e X.env)::starEach [] X.env:=by rfl)(hpl:(backTo pos (starEach [] X.env)).any (·.1)=false:=by rfl)(h0:starEach [e] X.env=(false,eval e X.env)::starEach [] X.env:=by rfl):
  PE X (.Call (.Name "len" p) [e] [] pos) (tCB (rLen K) (uK te zv)):=by
 subst hK
 exact bx eS hg hm PySem.boot_len (ae h ai h0) (by decide) (by decide) he hpl
theorem aF(hK:X.K=K)(ha:PE X a ta)(hb:PE X b tb)(hs:o4 b:=by exact fun _ _=>rfl):PE X (.Subscript a b pos) (tOp (rIxL K) ta tb):=by
 subst hK
 exact qA kI ha hb hs
theorem kr(hK:X.K=K)(ha:PE X a ta)(hb:PE X b tb)(hs:o4 b:=by exact fun _ _=>rfl):PE X (.Subscript a b pos) (tOp (rIxT K) ta tb):=by
 subst hK
 exact qA AN ha hb hs
theorem jf(hK:X.K=K){tg:Expr}(h:PE X e te):PI X tg e (zN K te):=by
 subst hK
 exact aY h
end
abbrev nums(xs:List Nat):List V:=xs.map fun x=>V.int (x:Nat)
def aJ(H:Hp)(a:Addr)(r:List Nat):Prop:=H a=some (.lst (nums r))
structure MatAt(H:Hp)(a:Addr)(m:List (List Nat))(as:List Addr):Prop where
 lst:H a=some (.lst (as.map V.ref))
 len:as.length=m.length
 row:∀(i:Nat) (b:Addr) (r:List Nat),as[i]?=some b→m[i]?=some r→aJ H b r
theorem MatAt.mono{H H':Hp}{a:Addr}{m:List (List Nat)}{as:List Addr}(M:MatAt H a m as)(s:Same H H'):MatAt H' a m as:=⟨s _ _ M.lst,M.len,fun i b r h1 h2=>s _ _ (M.row i b r h1 h2)⟩
theorem MatAt.at_{H:Hp}{a:Addr}{m:List (List Nat)}{as:List Addr}(M:MatAt H a m as){i:Nat}{r:List Nat}(h:m[i]?=some r):∃ b,as[i]?=some b∧aJ H b r:=by
 have hi:i<as.length:=by rw[M.len];exact(List.getElem?_eq_some_iff.mp h).1
 exact⟨as[i],List.getElem?_eq_getElem hi,M.row i _ r (List.getElem?_eq_getElem hi) h⟩
abbrev bB(ks:List Nat):HO:= .dK (dct ks fun _=>V.bl true)
structure NearAt(H:Hp)(a:Addr)(nb:List (List Nat))(as:List Addr):Prop where
 lst:H a=some (.lst (as.map V.ref))
 len:as.length=nb.length
 row:∀(i:Nat) (b:Addr) (r:List Nat),as[i]?=some b→nb[i]?=some r→H b=some (bB r)
theorem NearAt.mono{H H':Hp}{a:Addr}{m:List (List Nat)}{as:List Addr}(M:NearAt H a m as)(s:Same H H'):NearAt H' a m as:=⟨s _ _ M.lst,M.len,fun i b r h1 h2=>s _ _ (M.row i b r h1 h2)⟩
theorem NearAt.at_{H:Hp}{a:Addr}{m:List (List Nat)}{as:List Addr}(M:NearAt H a m as){i:Nat}{r:List Nat}(h:m[i]?=some r):∃ b,as[i]?=some b∧H b=some (bB r):=by
 have hi:i<as.length:=by rw[M.len];exact(List.getElem?_eq_some_iff.mp h).1
 exact⟨as[i],List.getElem?_eq_getElem hi,M.row i _ r (List.getElem?_eq_getElem hi) h⟩
def PartAt(H:Hp)(a:Addr)(L:List Nat)(c:Nat→Int):Prop:=H a=some (.dK (dct L fun p=>V.int (c p)))
theorem aX{α β:Type}{f:α→β}{l:List α}{i:Nat}{y:β}(h:(l.map f)[i]?=some y):∃ x,l[i]?=some x∧y=f x:=by
 rw[List.getElem?_map]at h
 obtain⟨x,h1,h2⟩:=Option.map_eq_some_iff.mp h
 exact⟨x,h1,h2.symm⟩
theorem bo{α β:Type}{f:α→β}{l:List α}{i:Nat}{x:α}(h:l[i]?=some x):(l.map f)[i]?=some (f x):=by rw[List.getElem?_map,h];rfl
def marks(r:List Nat)(b:Nat):List Nat:=((List.range r.length).filter fun i=>r.getD i 0==1).map (b+ ·)
theorem sZ{r:List Nat}{i x:Nat}(h:r[i]?=some x)(b:Nat):marks (r.take (i+1)) b=if x=1 then marks (r.take i) b++[b+i]else marks (r.take i) b:=by
 obtain⟨hi,e⟩:=List.getElem?_eq_some_iff.mp h
 have l1:(r.take (i+1)).length=i+1:=by rw[length_take];omega
 have l0:(r.take i).length=i:=by rw[length_take];omega
 have g:∀ j,j<i→(r.take (i+1)).getD j 0=(r.take i).getD j 0:=fun j hj=>by
  rw[getD_eq_getElem?_getD,getD_eq_getElem?_getD,List.getElem?_take,List.getElem?_take,if_pos (by omega),if_pos hj]
 have gi:(r.take (i+1)).getD i 0=x:=by
  rw[getD_eq_getElem?_getD,List.getElem?_take,if_pos (by omega),h]
  rfl
 unfold marks
 rw[l1,l0,range_succ,filter_append,map_append]
 have e1:(List.range i).filter (fun j=>(r.take (i+1)).getD j 0==1)=(List.range i).filter fun j=>(r.take i).getD j 0==1:=filter_congr fun j hj=>by rw[g j (mem_range.mp hj)]
 rw[e1]
 by_cases hx:x=1
 ·rw[if_pos hx,filter_cons,if_pos (by rw[gi,hx];rfl)]
  rfl
 ·rw[if_neg hx,filter_cons,if_neg (by rw[gi];simpa using hx)]
  simp
theorem wV{r:List Nat}{b x:Nat}(h:x∈marks r b):b≤x∧x<b+r.length:=by
 unfold marks at h
 obtain⟨i,hi,rfl⟩:=mem_map.mp h
 have:=mem_range.mp (mem_filter.mp hi).1
 omega
theorem oG(r:List Nat)(b:Nat):(marks r b).length≤r.length:=by
 unfold marks
 rw[length_map]
 have:=length_filter_le (fun i=>r.getD i 0==1) (List.range r.length)
 rw[length_range]at this
 exact this
section
abbrev jQ:Stmt:=top 1
theorem scNeighbours:ax ["row","before","found","other"] ["row","before"] (ak jQ):=fsc
def fg:Sp:=fun vs H Q _=>∃(a:Addr) (r:List Nat) (b:Nat),vs=[.ref a,.int b]∧aJ H a r∧r.length≤16∧b≤16∧∀ H' p,Same H H'→H p=none→H' p=some (bB (marks r b))→Q (.ref p) H'
theorem nv{f:Addr}{fd:FuncData}(F:Fun K "neighbours" "neighbours" jQ f fd)(T:Txt K mg):FnOk P w K mg base CX0 1 f fd ["row","before"] fg:=by
 refine F.ok scNeighbours (fun vs H Q E h=>?_) (fun cdv A outer s H vs Q E hr h=>?_)
 ·obtain⟨a,r,b,rfl,_⟩:=h
  rfl
 ·obtain⟨a,r,b,rfl,hR,hl,hb,k⟩:=h
  have nd:=scNeighbours.nd
  have hu:=cf hr
  refine⟨_,af (ay (i:=2) nd rfl (Or.inl rfl) df)
   (af (bC PassesOwn.never rfl (a5 rfl T.range (ae (bx eS (by rfl) T.len PySem.boot_len (ae (pv 0) ai)) ai)) (aA (i:=3) nd rfl (Or.inl rfl))
    (aj (aQ (aH bE (qA kI (pv 0) (pv 3) (fun _ _=>rfl)) az (nomark _)) (aj (cA hu (pv 2) (a0 cJ (pv 1) (pv 3)) nF rfl)) aG)))
   (aj (au (pv 2)))),?_⟩
  intro d hd
  have s0:Same H (upd H d (.dK [])):=Same.new hd
  have lenI:(nums r).length=r.length:=by simp
  refine⟨_,rfl,a,_,rfl,.inl (SqL.of (s0 _ _ hR)),_,rfl,by rw[lenI];omega,by rw[lenI];omega,cX (n:=_) (fun i σ H'=>∃ v:Option V,σ=[some (.ref a),some (.int b),some (.ref d),v]∧Same H H'∧H' d=some (bB (marks (r.take i) b)))
   ⟨none,rfl,s0,ah⟩ ?_ ?_⟩
  ·rintro i σ H' hi ⟨v,rfl,s1,hD⟩
   have hi':i<r.length:=by simpa using hi
   obtain⟨x,hx⟩:∃ x,r[i]?=some x:=⟨_,List.getElem?_eq_getElem hi'⟩
   have hm:=sZ hx b
   refine⟨_,rfl,_,rfl,a,_,_,_,rfl,rfl,SqL.of (s1 _ _ hR),cQ (j:=i) (v:=V.int x) (by simp) (bo hx),rfl,_,rfl,?_⟩
   refine aK (fun hc=>?_) (fun hc=>?_)
   ·have hx1:x=1:=by
     have:=V.int.inj (of_decide_eq_true hc)
     omega
    rw[if_pos hx1]at hm
    have ek:((b:Int)+(0+(i:Int)))=((b+i:Nat):Int):=by omega
    refine⟨_,rfl,_,rfl,_,rfl,_,_,rfl,rfl,d,_,rfl,DPut.k (k:=Sum.inl ((b:Int)+(0+(i:Int)))) hD ?_,?_⟩
    ·rw[aT]
     have:=oG (r.take i) b
     rw[length_take]at this
     exact aC (by omega)
    ·refine⟨_,rfl,s1.put hd,?_⟩
     rw[ah,ek,cT (f:=fun _=>V.bl true) (fun z=>by have:=wV z;rw[length_take]at this;omega),hm]
   ·have hx1:¬ x=1:=fun z=>hc (by rw[z];rfl)
    rw[if_neg hx1]at hm
    exact⟨_,rfl,s1,by rw[hD,hm]⟩
  ·rintro σ H' ⟨v,rfl,s1,hD⟩
   refine⟨_,rfl,k H' d s1 hd ?_⟩
   rw[hD,show((nums r).length:Int).toNat=r.length by simp,take_length]
abbrev tU:Stmt:=top 2
theorem scAlone:ax ["joined","row"] ["joined"] (ak tU):=fsc
def nbs(m:List (List Nat))(b:Nat):List (List Nat):=m.map fun r=>marks r b
def j8:Sp:=fun vs H Q _=>∃(a:Addr) (m:List (List Nat)) (as:List Addr),vs=[.ref a]∧MatAt H a m as∧m.length≤16∧(∀ r∈m,r.length=m.length)∧∀ H' p ps,Same H H'→H p=none→NearAt H' p (nbs m 0) ps→Q (.ref p) H'
theorem u5{H':Hp}{D:Addr}{ys:List V}{nb:List (List Nat)}(h:H' D=some (.lst ys))(hl:ys.length=nb.length)(R:∀(i:Nat) (y:V),ys[i]?=some y→∃ p r,y= .ref p∧nb[i]?=some r∧H' p=some (bB r)):∃ ps,NearAt H' D nb ps:=by
 have hx:∀ i,∃ p,i<ys.length→ys[i]?=some (.ref p)∧∀ r,nb[i]?=some r→H' p=some (bB r):=fun i=>by
  by_cases hi:i<ys.length
  ·obtain⟨p,r,e,h1,h2⟩:=R i ys[i] (List.getElem?_eq_getElem hi)
   exact⟨p,fun _=>⟨by rw[List.getElem?_eq_getElem hi,e],fun r' h'=>by rw[h1]at h';cases h';exact h2⟩⟩
  ·exact⟨0,fun z=>absurd z hi⟩
 let t:Nat→Addr:=fun i=>Classical.choose (hx i)
 have ht:=fun i=>Classical.choose_spec (hx i)
 refine⟨(List.range ys.length).map t,?_,by simp[hl],fun i b r h1 h2=>?_⟩
 ·rw[h]
  congr 2
  refine ext_getElem? fun i=>?_
  by_cases hi:i<ys.length
  ·rw[(ht i hi).1,map_map,List.getElem?_map,List.getElem?_range hi]
   rfl
  ·rw[List.getElem?_eq_none (by omega),List.getElem?_eq_none (by simp;omega)]
 ·obtain⟨j,hj,rfl⟩:=aX h1
  obtain⟨hb,hg⟩:=List.getElem?_eq_some_iff.mp hj
  rw[List.getElem_range]at hg
  subst hg
  exact(ht i (by simpa using hb)).2 r h2
theorem yF{f:Addr}{fd:FuncData}(F:Fun K "alone" "alone" tU f fd){f1:Addr}{fd1:FuncData}(C1:Cal P w K mg base 1 "neighbours" ["row","before"] fg f1 fd1):FnOk P w K mg base CX0 2 f fd ["joined"] j8:=by
 refine F.ok scAlone (fun vs H Q E h=>?_) (fun cdv A outer s H vs Q E hr h=>?_)
 ·obtain⟨a,m,as,rfl,_⟩:=h
  rfl
 ·obtain⟨a,m,as,rfl,M,hl,hs,k⟩:=h
  have nd:=scAlone.nd
  refine⟨_,aj (au (bL rfl nd (aY (pv 0)) (aM (own:=[("row",1)]) (show bX ["joined","row"] (ak tU) _ _=true by decide +kernel)) (fun _ _ _ _ _=>aA (i:=1) nd rfl (Or.inl rfl)) (fun _ _ _ _ _=>aU)
   (fun _ _ _ _ _=>aq C1 hr (ae (pv 1) (ae az ai))))),?_⟩
  refine⟨_,rfl,a,rfl,⟨_,SqL.of M.lst⟩,fun D hD=>kF hD (aN (SqL.of M.lst)) (Same.refl _) (fun i y H'=>∃ p r,y= .ref p∧p≠D∧(nbs m 0)[i]?=some r∧H' p=some (bB r)) (by rw[length_map,M.len];omega) (fun i y H1 H2 b ⟨p,r,e1,e2,e3,e4⟩=>⟨p,r,e1,e2,e3,b _ _ e2 e4⟩) ?_ ?_⟩
  ·intro i x H' C N hi sH hDn hx cont
   obtain⟨b,hb,rfl⟩:=aX hx
   have him:i<m.length:=by rw[← M.len];simpa using hi
   have hrow:=M.row i b m[i] hb (List.getElem?_eq_getElem him)
   refine⟨rfl,lcY ⟨_,rfl,b,m[i],0,rfl,sH _ _ hrow,by rw[hs _ (getElem_mem him)];exact hl,by omega,fun H4 p s4 hp e4=>cont _ _ s4 ⟨p,marks m[i] 0,rfl,fun z=>hDn (z▸hp),by unfold nbs;rw[List.getElem?_map,List.getElem?_eq_getElem him];rfl,e4⟩⟩⟩
  ·intro H' ys sH hA hlen hR
   obtain⟨ps,NA⟩:=u5 (nb:=nbs m 0) hA (by rw[hlen,length_map,M.len];simp[nbs]) fun i y hy=>by
    obtain⟨p,r,e1,_,e3,e4⟩:=hR i y hy
    exact⟨p,r,e1,e3,e4⟩
   exact k H' D ps sH hD NA
end
open GS
theorem gj:∀{l m:List Int},l.Perm m→l.Pairwise (· ≤ ·)→m.Pairwise (· ≤ ·)→l=m
 |[],m,p,_,_=>p.nil_eq
 |a::l,[],p,_,_=>by simpa using p.length_eq
 |a::l,b::m,p,h1,h2=>by
  rw[List.pairwise_cons]at h1 h2
  have e:a=b:=by
   have ha:a∈b::m:=p.mem_iff.mp mem_cons_self
   have hb:b∈a::l:=p.mem_iff.mpr mem_cons_self
   rcases mem_cons.mp ha with z|z
   ·exact z
   ·rcases mem_cons.mp hb with y|y
    ·exact y.symm
    ·have:=h1.1 b y
     have:=h2.1 a z
     omega
  subst e
  rw[gj (List.Perm.cons_inv p) h1.2 h2.2]
def srt(l:List Int):List Int:=l.mergeSort (fun a b=>decide (a≤b))
theorem gg(l:List Int):(srt l).Perm l:=List.mergeSort_perm l _
theorem hC(l:List Int):(srt l).Pairwise (· ≤ ·):=by
 have:=List.pairwise_mergeSort (le:=fun a b:Int=>decide (a≤b)) (fun a b c h1 h2=>by simp at*;omega) (fun a b=>by simp;omega) l
 exact this.imp fun h=>by simpa using h
theorem tD{l m:List Int}(p:m.Perm l)(h:m.Pairwise (· ≤ ·)):m=srt l:=gj (p.trans (gg l).symm) h (hC l)
theorem srt_iff{l m:List Int}:srt l=srt m↔l.Perm m:=⟨fun e=>(gg l).symm.trans (e▸gg m),fun p=>gj (((gg l).trans p).trans (gg m).symm) (hC l) (hC m)⟩
def aI(nb:List (List Nat))(p q:Nat):Bool:=decide (q∈nb.getD p [])
def around(nb:List (List Nat))(L:List Nat)(c:Nat→Int)(p:Nat):List Int:=((nb.getD p []).filter fun q=>decide (q∈L)).map c
def cM(nb:List (List Nat))(L:List Nat)(c:Nat→Int)(p:Nat):Int×List Int:=(c p,srt (around nb L c p))
theorem xZ{nb:List (List Nat)}{L:List Nat}{c:Nat→Int}(nL:L.Nodup)(nn:∀ r∈nb,r.Nodup)(p q:Nat):cM nb L c p=cM nb L c q↔Like (aI nb) c L p q:=by
 have nr:∀ p,(nb.getD p []).Nodup:=fun p=>by
  rw[getD_eq_getElem?_getD]
  cases e:nb[p]? with
  |none=>exact nodup_nil
  |some r=>exact nn r (mem_of_getElem? e)
 have cnt:∀ p x,nx (aI nb) c L p x=(around nb L c p).countP (fun y=>y==x):=fun p x=>by
  have pm:(L.filter (aI nb p)).Perm ((nb.getD p []).filter fun q=>decide (q∈L)):=(perm_ext_iff_of_nodup (nL.sublist filter_sublist) ((nr p).sublist filter_sublist)).mpr fun y=>by
   rw[mem_filter,mem_filter]
   unfold aI
   rw[decide_eq_true_iff,decide_eq_true_iff,and_comm]
  unfold nx around
  rw[countP_map,← pm.countP_eq,List.countP_filter]
  refine countP_congr fun o _=>?_
  rw[Bool.and_comm]
  rfl
 unfold cM Like
 rw[Prod.mk.injEq,srt_iff,List.perm_iff_count]
 refine and_congr_right fun _=>forall_congr' fun x=>?_
 rw[cnt,cnt,count_eq_countP,count_eq_countP]
theorem qD{adj:Nat→Nat→Bool}{L:List Nat}{c:Nat→Int}{i p:Nat}(hi:L[i]?=some p)(no:∀ q∈L.take i,¬ Like adj c L q p):bw adj L c p=(p:Int):=by
 classical
 unfold bw
 obtain⟨hl,e⟩:=List.getElem?_eq_some_iff.mp hi
 have sp:L=L.take i++p::L.drop (i+1):=by
  rw[← e,List.getElem_cons_drop,take_append_drop]
 have f:L.find? (fun q=> @decide (Like adj c L q p) (Classical.propDecidable _))=some p:=by
  rw[sp,List.find?_append,List.find?_eq_none.mpr fun q hq z=>no q hq (by rw[← sp]at z;exact of_decide_eq_true z),List.find?_cons]
  rw[← sp]
  have: @decide (Like adj c L p p) (Classical.propDecidable _)=true:=by
   rw[decide_eq_true_iff]
   exact Like.refl p
  rw[this]
  rfl
 rw[f]
 rfl
section
abbrev xP:Stmt:=top 3
theorem scSide:ax ["first","second","row"] ["first","second"] (ak xP):=fsc
def nb2(m m2:List (List Nat)):List (List Nat):=nbs m 0++nbs m2 m.length
def jg:Sp:=fun vs H Q _=>∃(a b:Addr) (m m2:List (List Nat)) (as bs:List Addr),vs=[.ref a,.ref b]∧MatAt H a m as∧MatAt H b m2 bs∧m.length≤16∧(∀ r∈m,r.length=m.length)∧m2.length≤16∧(∀ r∈m2,r.length=m2.length)∧
 ∀ H' p ps,Same H H'→H p=none→NearAt H' p (nb2 m m2) ps→Q (.ref p) H'
theorem xE{H:Hp}{p:Addr}{n1 n2:List (List Nat)}{as bs:List Addr}{a b:Addr}(A:NearAt H a n1 as)(B:NearAt H b n2 bs)(h:H p=some (.lst ((as++bs).map V.ref))):NearAt H p (n1++n2) (as++bs):=by
 refine⟨h,by rw[length_append,length_append,A.len,B.len],fun i c r h1 h2=>?_⟩
 by_cases hi:i<as.length
 ·rw[List.getElem?_append_left hi]at h1
  rw[List.getElem?_append_left (by rw[← A.len];exact hi)]at h2
  exact A.row i c r h1 h2
 ·rw[List.getElem?_append_right (by omega)]at h1
  rw[List.getElem?_append_right (by rw[← A.len];omega),← A.len]at h2
  exact B.row _ c r h1 h2
theorem zD{f:Addr}{fd:FuncData}(F:Fun K "side_by_side" "side_by_side" xP f fd)(T:Txt K mg){f1:Addr}{fd1:FuncData}(C1:Cal P w K mg base 1 "neighbours" ["row","before"] fg f1 fd1){f2:Addr}{fd2:FuncData}(C2:Cal P w K mg base 2 "alone" ["joined"] j8 f2 fd2):
  FnOk P w K mg base CX0 3 f fd ["first","second"] jg:=by
 refine F.ok scSide (fun vs H Q E h=>?_) (fun cdv A outer s H vs Q E hr h=>?_)
 ·obtain⟨a,b,m,m2,as,bs,rfl,_⟩:=h
  rfl
 ·obtain⟨a,b,m,m2,as,bs,rfl,M,M2,hl,hs,hl2,hs2,k⟩:=h
  have nd:=scSide.nd
  have hr1:Room 1 _:=hr.mono (by decide)
  refine⟨_,aj (au (a0 jt (aq C2 hr (ae (pv 0) ai)) (bL rfl nd (aY (pv 1)) (aM (own:=[("row",2)]) (show bX ["first","second","row"] (ak xP) _ _=true by decide +kernel)) (fun _ _ _ _ _=>aA (i:=2) nd rfl (Or.inl rfl)) (fun _ _ _ _ _=>aU)
   (fun _ _ _ _ _=>aq C1 hr1 (ae (pv 2) (ae (aS (K:=K) rfl T.len (pv 0)) ai)))))),?_⟩
  refine⟨_,rfl,a,m,as,rfl,M,hl,hs,fun H1 p1 ps1 s1 hp1 N1=>?_⟩
  have M2':=M2.mono s1
  refine⟨_,rfl,b,rfl,⟨_,SqL.of M2'.lst⟩,fun D hD=>?_⟩
  refine kF hD (aN (SqL.of M2'.lst)) (Same.refl _) (fun i y H'=>∃ p r,y= .ref p∧p≠D∧(nbs m2 m.length)[i]?=some r∧H' p=some (bB r)) (by rw[length_map,M2.len];omega) (fun i y H1 H2 b ⟨p,r,e1,e2,e3,e4⟩=>⟨p,r,e1,e2,e3,b _ _ e2 e4⟩) ?_ ?_
  ·intro i x H' C N hi sH hDn hx cont
   obtain⟨b,hb,rfl⟩:=aX hx
   have him:i<m2.length:=by rw[← M2.len];simpa using hi
   have hrow:=M2.row i b m2[i] hb (List.getElem?_eq_getElem him)
   refine⟨rfl,lcY ⟨_,rfl,_,rfl,a,_,rfl,.inl (SqL.of (sH _ _ (s1 _ _ M.lst))),b,m2[i],m.length,?_,sH _ _ (s1 _ _ hrow),by rw[hs2 _ (getElem_mem him)];exact hl2,hl,fun H4 p s4 hp e4=>cont _ _ s4 ⟨p,marks m2[i] m.length,rfl,fun z=>hDn (z▸hp),by unfold nbs;rw[List.getElem?_map,List.getElem?_eq_getElem him];rfl,e4⟩⟩⟩
   rw[length_map,M.len]
   rfl
  ·intro H' ys sH hA hlen hR
   obtain⟨ps,NA⟩:=u5 (nb:=nbs m2 m.length) hA (by rw[hlen,length_map,M2.len];simp[nbs]) fun i y hy=>by
    obtain⟨p,r,e1,_,e3,e4⟩:=hR i y hy
    exact⟨p,r,e1,e3,e4⟩
   have N1':=N1.mono sH
   refine⟨p1,D,_,_,rfl,rfl,N1'.lst,NA.lst,?_,fun q hq=>?_⟩
   ·rw[length_map,length_map,N1'.len,NA.len]
    have:(nbs m 0).length+(nbs m2 m.length).length≤32:=by simp[nbs];omega
    exact le_of_lt (aC (by omega))
   ·have sq:Same H' (upd H' q (.lst (ps1.map V.ref++ps.map V.ref))):=Same.new hq
    exact k _ q (ps1++ps) ((s1.trans sH).trans sq) ((s1.trans sH).free hq) (xE (N1'.mono sq) (NA.mono sq) (by rw[ah,map_append]))
abbrev yu:Stmt:=top 4
theorem scWhole:ax ["near","parting","point"] ["near"] (ak yu):=fsc
def pJ:Sp:=fun vs H Q _=>∃(a:Addr) (nb:List (List Nat)) (as:List Addr),vs=[.ref a]∧NearAt H a nb as∧nb.length≤32∧∀ H' p,Same H H'→H p=none→PartAt H' p (List.range nb.length) (fun _=>0)→Q (.ref p) H'
theorem yr{f:Addr}{fd:FuncData}(F:Fun K "whole_parting" "whole_parting" yu f fd)(T:Txt K mg):FnOk P w K mg base CX0 1 f fd ["near"] pJ:=by
 refine F.ok scWhole (fun vs H Q E h=>?_) (fun cdv A outer s H vs Q E hr h=>?_)
 ·obtain⟨a,nb,as,rfl,_⟩:=h
  rfl
 ·obtain⟨a,nb,as,rfl,N,hl,k⟩:=h
  have nd:=scWhole.nd
  have hu:=cf hr
  refine⟨_,af (ay (i:=1) nd rfl (Or.inl rfl) df)
   (af (bC PassesOwn.never rfl (a5 rfl T.range (ae (bx eS (by rfl) T.len PySem.boot_len (ae (pv 0) ai)) ai)) (aA (i:=2) nd rfl (Or.inl rfl)) (aj (cA hu (pv 1) (pv 2) az rfl)))
   (aj (au (pv 1)))),?_⟩
  intro d hd
  have s0:Same H (upd H d (.dK [])):=Same.new hd
  have lenI:(as.map V.ref).length=nb.length:=by rw[length_map,N.len]
  refine⟨_,rfl,a,_,rfl,.inl (SqL.of (s0 _ _ N.lst)),_,rfl,by rw[lenI];omega,by rw[lenI];omega,cX (n:=_) (fun i σ H'=>∃ v:Option V,σ=[some (.ref a),some (.ref d),v]∧Same H H'∧PartAt H' d (List.range i) (fun _=>0))
   ⟨none,rfl,s0,ah⟩ ?_ ?_⟩
  ·rintro i σ H' hi ⟨v,rfl,s1,hD⟩
   have hi':i<nb.length:=by rw[lenI]at hi;simpa using hi
   have ek:(0+(i:Int))=((i:Nat):Int):=by omega
   refine⟨_,rfl,_,rfl,d,_,rfl,DPut.k (k:=Sum.inl (0+(i:Int))) hD ?_,_,rfl,s1.put hd,?_⟩
   ·rw[aT,length_range]
    exact aC (by omega)
   ·show upd H' d _ d=_
    rw[ah,ek,cT (f:=fun _=>V.int 0) (by simp),← range_succ]
  ·rintro σ H' ⟨v,rfl,s1,hD⟩
   refine⟨_,rfl,k H' d s1 hd ?_⟩
   rw[lenI]at hD
   simpa using hD
abbrev ko:Stmt:=top 5
theorem scDeeper:ax ["near","parting","first","deeper","point","around","other"] ["near","parting"] (ak ko):=fsc
structure NbOk(nb:List (List Nat))(L:List Nat):Prop where
 nL:L.Nodup
 nn:∀ r∈nb,r.Nodup
 len:∀ r∈nb,r.length≤16
 lt:∀ p∈L,p<nb.length
 few:L.length≤32
def mr:Sp:=fun vs H Q _=>∃(a b:Addr) (nb:List (List Nat)) (as:List Addr) (L:List Nat) (c:Nat→Int),vs=[.ref a,.ref b]∧NearAt H a nb as∧PartAt H b L c∧NbOk nb L∧∀ H' p,Same H H'→H p=none→PartAt H' p L (GS.bw (aI nb) L c)→Q (.ref p) H'
theorem yE{kvs:List ((Int×List Int)×Addr×V)}{k k':Int×List Int}{t:Addr}{v:V}:atN (kvs++[(k,t,v)]) k'=match atN kvs k' with|some p=>some p|none=>if k=k' then some (t,v)else none:=by
 unfold atN
 rw[List.find?_append]
 cases e:kvs.find? (fun x=>decide (x.1=k'))with
 |some x=>rfl
 |none=>
  rw[List.find?_cons]
  by_cases h:k=k'
  ·simp[h]
  ·simp[h]
theorem jH{α:Type}(l:List α)(q:α→Bool)(d:α):((List.range l.length).filter fun i=>q (l.getD i d)).map (fun i=>l.getD i d)=l.filter q:=by
 have h:l=(List.range l.length).map fun i=>l.getD i d:=by
  refine ext_getElem? fun i=>?_
  rw[List.getElem?_map]
  by_cases h:i<l.length
  ·rw[List.getElem?_range h,List.getElem?_eq_getElem h]
   simp[getD_eq_getElem?_getD,h]
  ·rw[List.getElem?_eq_none (by omega),List.getElem?_eq_none (by simpa using h)]
   rfl
 conv=>rhs;rw[h,List.filter_map]
 rfl
theorem unlock{H H':Hp}{d:Addr}{od:Obj}{u:HO}(h:H d=some u)(s:Same (upd H d (.frz od u)) H'):Same H (upd H' d u):=fun x o e=>by
 by_cases hx:x=d
 ·subst hx
  rw[h]at e
  cases e
  exact ah
 ·rw[ao hx]
  exact s x o (by rw[ao hx];exact e)
theorem locked{H H':Hp}{d x:Addr}{od:Obj}{u o:HO}(s:Same (upd H d (.frz od u)) H')(hx:x≠d)(e:H x=some o):H' x=some o:=s x o (by rw[ao hx];exact e)
theorem pK{H:Hp}{b:Addr}{od:Obj}{kvs:List (Key×V)}(h:H b=some (.frz od (.dK kvs)))(k:Key):DGet H b (kV k) (bj kvs k):= .inl ⟨kvs,k,.inr ⟨od,h⟩,rfl,rfl⟩
theorem zh{H:Hp}{b x:Addr}{L r:List Nat}{c:Nat→Int}(hb:PartAt H b L c)(hx:H x=some (bB r))(hL:L≠[]):x≠b:=by
 intro e
 subst e
 have:=Option.some.inj (hx.symm.trans hb)
 cases L with
 |nil=>exact hL rfl
 |cons p L=>
  cases r with
  |nil=>simp[dct]at this
  |cons q r=>simp[dct]at this
theorem vW{f:Addr}{fd:FuncData}(F:Fun K "deeper_parting" "deeper_parting" ko f fd)(T:Txt K mg):FnOk P w K mg base CX0 1 f fd ["near","parting"] mr:=by
 refine F.ok scDeeper (fun vs H Q E h=>?_) (fun cdv A outer s H vs Q E hr h=>?_)
 ·obtain⟨a,b,nb,as,L,c,rfl,_⟩:=h
  rfl
 ·obtain⟨a,b,nb,as,L,c,rfl,N,hP,O,k⟩:=h
  have nd:=scDeeper.nd
  have hu:=cf hr
  have hu3:(A.deeper (envOfC "deeper_parting" (ak ko) s.heap.objs.size f cdv)).units+3<cLine:=by have:=hr.un;omega
  refine⟨_,af (ay (i:=2) nd rfl (Or.inl rfl) xj) (af (ay (i:=3) nd rfl (Or.inl rfl) df)
   (af (uU (bC PassesOwn.never rfl (gF (pv 1)) (aA (i:=4) nd rfl (Or.inl rfl))
    (af (ay (i:=5) nd rfl (Or.inl rfl) (bx jr (by rfl) T.sorted (by decide +kernel) (ae (pS
     (bL rfl nd (gF (qA kI (pv 0) (pv 4) (fun _ _=>rfl))) (aM (own:=[("other",6)]) (show bX ["near","parting","first","deeper","point","around","other"] (ak ko) _ _=true by decide +kernel)) (fun _ _ _ _ _=>aA (i:=6) nd rfl (Or.inl rfl)) (fun _ _ _ _ _=>eM (cI (o6 hu (pv 6) (pv 1)))) (fun _ _ _ _ _=>a4 hu (pv 1) (pv 6) (fun _ _=>rfl)))) ai)))
    (aj (cA hu (pv 3) (pv 4) (Ag hu3 (pv 2) (pZ (ae (a4 hu (pv 1) (pv 4) (fun _ _=>rfl)) (ae (aV dC (by rfl) T.tuple (by decide +kernel) (ae (pv 5) ai)) ai))) (pv 4) ⟨rfl,rfl,rfl,rfl⟩) rfl)))))
   (aj (au (pv 3))))),?_⟩
  intro d1 hd1 d2 hd2
  have n1:H d1=none:=hd1
  have n2:H d2=none:=(Same.new hd1).free hd2
  have d12:d1≠d2:=fun z=>by rw[← z,ah]at hd2;cases hd2
  have b1:b≠d1:=aL hP n1
  have b2:b≠d2:=aL hP n2
  have hP2:(upd (upd H d1 (DN P w d1 [])) d2 (.dK [])) b=some (.dK (dct L fun p=>V.int (c p))):=by rw[ao b2,ao b1];exact hP
  refine⟨b,_,hP2,True.intro,fun od=>?_⟩
  have s0:Same (upd H b (.frz od (.dK (dct L fun p=>V.int (c p))))) (upd (upd (upd H d1 (DN P w d1 [])) d2 (.dK [])) b (.frz od (.dK (dct L fun p=>V.int (c p))))):=fun x o e=>by
   by_cases hx:x=b
   ·subst hx
    rw[ah]at e ⊢
    exact e
   ·rw[ao hx]at e ⊢
    rw[ao (aL e n2),ao (aL e n1)]
    exact e
  refine⟨_,rfl,b,od,rfl,.inl ⟨_,ah,?_⟩⟩
  have nb1:(upd H b (.frz od (.dK (dct L fun p=>V.int (c p))))) d1=none:=by rw[ao b1.symm];exact n1
  have nb2:(upd H b (.frz od (.dK (dct L fun p=>V.int (c p))))) d2=none:=by rw[ao b2.symm];exact n2
  let Inv:Nat→L2.St→Hp→Prop:=fun i σ H'=>∃(v4 v5:Option V) (kvs:List ((Int×List Int)×Addr×V)),σ=[some (.ref a),some (.ref b),some (.ref d1),some (.ref d2),v4,v5,none]∧Same (upd H b (.frz od (.dK (dct L fun p=>V.int (c p))))) H'∧
   H' d1=some (DN P w d1 kvs)∧H' d2=some (.dK (dct (L.take i) fun p=>V.int (GS.bw (aI nb) L c p)))∧(∀ x,x∈kvs→iF H' x.1 x.2.1)∧kvs.length≤i∧
   (∀ p∈L.take i,∃ t,atN kvs (cM nb L c p)=some (t,V.int (GS.bw (aI nb) L c p)))∧∀ k,(∀ p∈L.take i,cM nb L c p≠k)→atN kvs k=none
  refine bN (gE (H:=upd H b (.frz od (.dK (dct L fun p=>V.int (c p))))) ah) Inv
   ⟨none,none,[],rfl,s0,by rw[ao b1.symm,ao d12,ah];rfl,by rw[ao b2.symm,ah];rfl,(fun x hx=>nomatch hx),zero_le _,fun p hp=>by simp at hp,fun k _=>rfl⟩ (fun i σ H' ⟨_,_,_,_,s1,_⟩=>s1) calm_keys.mono ?_ ?_
  ·rintro i x σ H' hi ⟨v4,v5,kvs,rfl,s1,h1,h2,all,hlen,known,unknown⟩ ⟨key,v,hkv,rfl⟩
   obtain⟨p,hp,ekv⟩:=aX hkv
   cases ekv
   have hi':i<L.length:=by rw[aT]at hi;exact hi
   have hpL:p∈L:=mem_of_getElem? hp
   have hb':=s1 _ _ (ah (a:=b))
   have hpl:=O.lt p hpL
   obtain⟨nr,hnr,hdict⟩:=N.at_ (i:=p) (r:=nb[p]) (List.getElem?_eq_getElem hpl)
   have hrow:nb.getD p []=nb[p]:=by simp[getD_eq_getElem?_getD,hpl]
   have neb:nr≠b:=zh hP hdict (fun z=>by rw[z]at hpL;cases hpL)
   have nea:a≠b:=dY N.lst hP (fun z=>nomatch z)
   have hdict':H' nr=some (bB nb[p]):=locked s1 neb hdict
   have hlst':H' a=some (.lst (as.map V.ref)):=locked s1 nea N.lst
   have rl:nb[p].length≤16:=O.len _ (getElem_mem hpl)
   have lt1000:nb[p].length≤1000:=by omega
   refine⟨nr,_,hdict',True.intro,fun od2=>?_⟩
   have hae:a≠nr:=dY hlst' hdict' (fun z=>nomatch z)
   refine⟨_,rfl,_,rfl,a,_,_,_,rfl,rfl,SqL.of (by rw[ao hae];exact hlst'),cQ (j:=p) rfl (bo hnr),nr,od2,rfl,.inl ⟨_,ah,fun D hD=>?_⟩⟩
   refine fi hD (gE ah) (Same.refl _) (fun j=>decide (nb[p].getD j 0∈L)) (fun j=>V.int (c (nb[p].getD j 0))) (show(dct nb[p] fun _=>V.bl true).length≤1000 by rw[aT];omega) ?_ ?_
   ·rintro j y H3 C Nx hj s3 ⟨key,v,hk2,rfl⟩ yes no
    obtain⟨q,hq,eq⟩:=aX hk2
    cases eq
    have hg:nb[p].getD j 0=q:=by rw[getD_eq_getElem?_getD,hq];rfl
    rw[hg]at yes no
    have hb3:H3 b=some (.frz od (.dK (dct L fun p=>V.int (c p)))):=s3 _ _ (by rw[ao (fun z=>neb z.symm)];exact hb')
    refine⟨rfl,_,rfl,_,rfl,b,_,rfl,pK hb3 (Sum.inl ((q:Nat):Int)),_,rfl,?_⟩
    rw[cg]
    refine aK (fun hc=>?_) (fun hc=>?_)
    ·have hqL:q∈L:=of_decide_eq_true hc
     have hgd:=pK hb3 (Sum.inl ((q:Nat):Int))
     rw[bQ,if_pos hqL]at hgd
     exact⟨_,rfl,_,rfl,b,_,rfl,hgd,yes hc H3 (Same.refl _)⟩
    ·exact no (by simpa using hc) H3 (Same.refl _)
   ·intro H3 s3 hA
    refine⟨s3 _ _ ah,?_⟩
    have sH3:Same H' (upd H3 nr (bB nb[p])):=unlock hdict' s3
    have eA:((List.range (dct nb[p] fun _=>V.bl true).length).filter fun j=>decide (nb[p].getD j 0∈L)).map (fun j=>V.int (c (nb[p].getD j 0)))=(around nb L c p).map V.int:=by
     rw[aT]
     unfold around
     rw[hrow,← jH nb[p] (fun q=>decide (q∈L)) 0,map_map,map_map]
     rfl
    rw[eA]at hA
    have Dn:D≠nr:=fun z=>by rw[z,ah]at hD;cases hD
    refine⟨D,around nb L c p,rfl,SqL.of (by rw[ao Dn];exact hA),?_,fun ns' q pm so hq=>?_⟩
    ·unfold around
     rw[length_map,hrow]
     have:=length_filter_le (fun q=>decide (q∈L)) nb[p]
     omega
    ·have es:ns'=srt (around nb L c p):=tD pm so
     subst es
     have sH4:Same H' (upd (upd H3 nr (bB nb[p])) q (.lst ((srt (around nb L c p)).map V.int))):=sH3.trans (Same.new hq)
     have sB:=s1.trans sH4
     have hb4:=sH4 _ _ hb'
     have hgd:=pK hb4 (Sum.inl ((p:Nat):Int))
     rw[bQ,if_pos hpL]at hgd
     refine⟨_,rfl,d1,kvs,rfl,sH4 _ _ h1,_,rfl,_,rfl,b,_,rfl,hgd,_,rfl,q,_,rfl,.inl ⟨SqL.of ah,fun l hl=>⟨by show 2≤sizeLine;decide,fun t ht=>?_⟩⟩⟩
     have sH5:Same (upd (upd H3 nr (bB nb[p])) q (.lst ((srt (around nb L c p)).map V.int))) (upd (upd (upd (upd H3 nr (bB nb[p])) q (.lst ((srt (around nb L c p)).map V.int))) l (.tup ((srt (around nb L c p)).map V.int))) t (.tup [.int (c p),.ref l])):=(Same.new hl).trans (Same.new ht)
     have sH6:=sH4.trans sH5
     have pr:iF (upd (upd (upd (upd H3 nr (bB nb[p])) q (.lst ((srt (around nb L c p)).map V.int))) l (.tup ((srt (around nb L c p)).map V.int))) t (.tup [.int (c p),.ref l])) (cM nb L c p) t:=⟨l,ah,Same.new ht _ _ ah⟩
     have h1':=sH6 _ _ h1
     have h2':=sH6 _ _ h2
     have tk:L.take (i+1)=L.take i++[p]:=by rw[List.take_add_one,hp];rfl
     have pnot:p∉L.take i:=fun z=>by
      obtain⟨j,hj,e⟩:=mem_take_iff_getElem.mp z
      have:=vg O.nL (i:=j) (j:=i) (by rw[List.getElem?_eq_getElem (by omega),e]) hp
      omega
     have lks:∀ q q',cM nb L c q=cM nb L c q'↔GS.Like (aI nb) c L q q':=xZ O.nL O.nn
     have fin:∀(H7:Hp) (kvs':List ((Int×List Int)×Addr×V)),Same (upd H b (.frz od (.dK (dct L fun p=>V.int (c p))))) H7→H7 d1=some (DN P w d1 kvs')→H7 d2=some (.dK (dct (L.take i) fun p=>V.int (GS.bw (aI nb) L c p)))→(∀ x,x∈kvs'→iF H7 x.1 x.2.1)→kvs'.length≤i+1→
       (∀ p∈L.take (i+1),∃ t,atN kvs' (cM nb L c p)=some (t,V.int (GS.bw (aI nb) L c p)))→(∀ k,(∀ p∈L.take (i+1),cM nb L c p≠k)→atN kvs' k=none)→
       Inv (i+1) [some (V.ref a),some (V.ref b),some (V.ref d1),some (V.ref d2),some (V.int ((p:Nat):Int)),some (V.ref q),none] (upd H7 d2 (.dK (cC (dct (L.take i) fun p=>V.int (GS.bw (aI nb) L c p)) (Sum.inl ((p:Nat):Int)) (V.int (GS.bw (aI nb) L c p))))):=by
      intro H7 kvs' w1 w2 w3 w4 w5 w6 w7
      have ned:∀ x ys,H7 x=some (.tup ys)→x≠d2:=fun x ys e z=>by rw[z,w3]at e;cases e
      refine⟨_,_,kvs',rfl,w1.put nb2,by rw[ao d12];exact w2,?_,fun x hx=>?_,w5,w6,w7⟩
      ·rw[ah,cT (f:=fun p=>V.int (GS.bw (aI nb) L c p)) pnot,tk]
      ·obtain⟨l',e1,e2⟩:=w4 x hx
       exact⟨l',by rw[ao (ned _ _ e1)];exact e1,by rw[ao (ned _ _ e2)];exact e2⟩
     have put:∀ H7:Hp,H7 d2=some (.dK (dct (L.take i) fun p=>V.int (GS.bw (aI nb) L c p)))→DPut H7 d2 (V.int ((p:Nat):Int)) (V.int (GS.bw (aI nb) L c p)) (upd H7 d2 (.dK (cC (dct (L.take i) fun p=>V.int (GS.bw (aI nb) L c p)) (Sum.inl ((p:Nat):Int)) (V.int (GS.bw (aI nb) L c p))))):=fun H7 e=>
      DPut.k (k:=Sum.inl ((p:Nat):Int)) e (by rw[aT,length_take];have:=O.few;exact aC (by omega))
     refine⟨_,rfl,kvs,cM nb L c p,t,h1',rfl,pr,fun x hx=>?_,aC (by have:=O.few;omega),fun pv hpv=>?_,fun hno=>?_⟩
     ·obtain⟨l',e1,e2⟩:=all x hx
      exact⟨l',sH6 _ _ e1,sH6 _ _ e2⟩
     ·
      have ex:∃ q0∈L.take i,cM nb L c q0=cM nb L c p:=by
       refine Classical.byContradiction fun z=>?_
       rw[unknown _ fun q0 hq0 e=>z ⟨q0,hq0,e⟩]at hpv
       cases hpv
      obtain⟨q0,hq0,e0⟩:=ex
      obtain⟨t0,ht0⟩:=known q0 hq0
      have dd:GS.bw (aI nb) L c q0=GS.bw (aI nb) L c p:=(GS.bu (List.mem_of_mem_take hq0) hpL).mpr ((lks q0 p).mp e0)
      rw[e0,dd]at ht0
      rw[ht0]at hpv
      cases hpv
      refine⟨_,rfl,_,rfl,d2,_,rfl,put _ h2',fin _ kvs (s1.trans sH6) h1' h2' (fun x hx=>?_) (by omega) (fun p' hp'=>?_) fun k' hk'=>unknown k' fun p' hp'=>hk' p' (by rw[tk];exact mem_append_left _ hp')⟩
      ·obtain⟨l',e1,e2⟩:=all x hx
       exact⟨l',sH6 _ _ e1,sH6 _ _ e2⟩
      ·rw[tk]at hp'
       rcases mem_append.mp hp' with z|z
       ·exact known p' z
       ·have:p'=p:=by simpa using z
        subst this
        exact⟨t0,ht0⟩
     ·
      have no:∀ q0∈L.take i,¬ GS.Like (aI nb) c L q0 p:=fun q0 hq0 z=>by
       obtain⟨t0,ht0⟩:=known q0 hq0
       rw[(lks q0 p).mpr z,hno]at ht0
       cases ht0
      have dp:GS.bw (aI nb) L c p=(p:Int):=qD hp no
      have nt:∀ x o,(upd (upd (upd (upd H3 nr (bB nb[p])) q (.lst ((srt (around nb L c p)).map V.int))) l (.tup ((srt (around nb L c p)).map V.int))) t (.tup [.int (c p),.ref l])) x=some (.tup o)→x≠d1:=fun x o e z=>by rw[z,h1']at e;cases e
      have hsnoc:∀ k',atN (kvs++[(cM nb L c p,t,V.int ((p:Nat):Int))]) k'=match atN kvs k' with|some p=>some p|none=>if cM nb L c p=k' then some (t,V.int ((p:Nat):Int))else none:=fun k'=>yE
      rw[dp]at fin put
      refine⟨_,rfl,_,rfl,d2,_,rfl,?_,fin _ (kvs++[(cM nb L c p,t,V.int ((p:Nat):Int))]) ((s1.trans sH6).put nb1) ah (by rw[ao d12.symm];exact h2') (fun x hx=>?_) (by simp;omega) (fun p' hp'=>?_) fun k' hk'=>?_⟩
      ·exact put _ (by rw[ao d12.symm];exact h2')
      ·have hxx:iF (upd (upd (upd (upd H3 nr (bB nb[p])) q (.lst ((srt (around nb L c p)).map V.int))) l (.tup ((srt (around nb L c p)).map V.int))) t (.tup [.int (c p),.ref l])) x.1 x.2.1:=by
        rcases mem_append.mp hx with z|z
        ·obtain⟨l',e1,e2⟩:=all x z
         exact⟨l',sH6 _ _ e1,sH6 _ _ e2⟩
        ·have:x=(cM nb L c p,t,V.int ((p:Nat):Int)):=by simpa using z
         rw[this]
         exact pr
       obtain⟨l',e1,e2⟩:=hxx
       exact⟨l',by rw[ao (nt _ _ e1)];exact e1,by rw[ao (nt _ _ e2)];exact e2⟩
      ·rw[hsnoc]
       rw[tk]at hp'
       rcases mem_append.mp hp' with z|z
       ·obtain⟨t0,ht0⟩:=known p' z
        rw[ht0]
        exact⟨t0,rfl⟩
       ·have:p'=p:=by simpa using z
        subst this
        rw[hno]
        exact⟨t,by simp[dp]⟩
      ·rw[hsnoc,unknown k' fun p' hp'=>hk' p' (by rw[tk];exact mem_append_left _ hp')]
       have:=hk' p (by rw[tk];simp)
       simp[this]
  ·rintro σ H' ⟨v4,v5,kvs,rfl,s1,h1,h2,_⟩
   refine⟨s1 _ _ ah,_,rfl,k _ d2 (unlock hP s1) n2 ?_⟩
   show upd H' b _ d2=_
   rw[ao b2.symm,h2,aT,take_length]
end
section
theorem PartAt.mono{H H':Hp}{a:Addr}{L:List Nat}{c:Nat→Int}(h:PartAt H a L c)(s:Same H H'):PartAt H' a L c:=s _ _ h
theorem yS{L:List Nat}{f g:Nat→Int}:((dct L fun p=>V.int (f p)).all fun p=>decide (bj (dct L fun p=>V.int (g p)) p.1=some p.2))=decide (∀ p∈L,f p=g p):=by
 have key:∀ M:List Nat,(∀ p∈M,p∈L)→(((dct M fun p=>V.int (f p)).all fun p=>decide (bj (dct L fun p=>V.int (g p)) p.1=some p.2))=true↔∀ p∈M,f p=g p):=by
  intro M hM
  rw[all_eq_true]
  constructor
  ·intro h p hp
   have:=h (Sum.inl ((p:Nat):Int),V.int (f p)) (mem_map.mpr ⟨p,hp,rfl⟩)
   rw[bQ,if_pos (hM p hp)]at this
   have:=of_decide_eq_true this
   have:=V.int.inj (Option.some.inj this)
   exact this.symm
  ·intro h x hx
   obtain⟨p,hp,rfl⟩:=mem_map.mp hx
   rw[bQ,if_pos (hM p hp)]
   show decide (some (V.int (g p))=some (V.int (f p)))=true
   rw[h p hp]
   simp
 rw[Bool.eq_iff_iff,key L fun p hp=>hp,decide_eq_true_iff]
noncomputable abbrev csN(nb:List (List Nat)):Nat→Nat→Int:=GS.cs (aI nb) (List.range nb.length) (fun _=>0)
structure kH(H:Hp)(p:Addr)(nb:List (List Nat))(ps:List Addr):Prop where
 lst:H p=some (.lst (ps.map V.ref))
 row:∀(k:Nat) (q:Addr),ps[k]?=some q→PartAt H q (List.range nb.length) (csN nb k)
abbrev oI:Stmt:=top 6
theorem scPartings:ax ["near","found","parting","deeper"] ["near"] (ak oI):=fsc
def fc:Sp:=fun vs H Q _=>∃(a:Addr) (nb:List (List Nat)) (as:List Addr) (r:Nat),vs=[.ref a]∧NearAt H a nb as∧NbOk nb (List.range nb.length)∧GS.qb (aI nb) nb.length r∧r≤32∧
 ∀ H' p ps,Same H H'→H p=none→kH H' p nb ps→ps.length=r+1→Q (.ref p) H'
theorem sQ{f:Addr}{fd:FuncData}(F:Fun K "partings" "partings" oI f fd)(T:Txt K mg){f1:Addr}{fd1:FuncData}(C1:Cal P w K mg base 1 "whole_parting" ["near"] pJ f1 fd1){f2:Addr}{fd2:FuncData}(C2:Cal P w K mg base 1 "deeper_parting" ["near","parting"] mr f2 fd2):
  FnOk P w K mg base CX0 2 f fd ["near"] fc:=by
 refine F.ok scPartings (fun vs H Q E h=>?_) (fun cdv A outer s H vs Q E hr h=>?_)
 ·obtain⟨a,nb,as,r,rfl,_⟩:=h
  rfl
 ·obtain⟨a,nb,as,r,rfl,N,O,S,hr32,k⟩:=h
  have nd:=scPartings.nd
  have hu:=cf hr
  have n32:nb.length≤32:=by have:=O.few;rw[length_range]at this;exact this
  refine⟨_,af (ay (i:=1) nd rfl (Or.inl rfl) (aP ai)) (af (ay (i:=2) nd rfl (Or.inl rfl) (aq C1 hr (ae (pv 0) ai)))
   (af (ay (i:=3) nd rfl (Or.inl rfl) (aq C2 hr (ae (pv 0) (ae (pv 2) ai))))
   (af (dR PassesOwn.never (aH (Al hu) (pv 3) (pv 2) (nomark _))
    (af (cj (i0 PySem.F.plainAttrs_list PySem.F.slot_list_append PySem.F.type_list_append cw (pv 1) (ae (pv 2) ai)))
    (af (ay (i:=2) nd rfl (Or.inl rfl) (pv 3)) (aj (ay (i:=3) nd rfl (Or.inl rfl) (aq C2 hr (ae (pv 0) (ae (pv 2) ai))))))))
   (af (cj (i0 PySem.F.plainAttrs_list PySem.F.slot_list_append PySem.F.type_list_append cw (pv 1) (ae (pv 2) ai))) (aj (au (pv 1))))))),?_⟩
  refine⟨zero_le _,fun fo hfo=>?_⟩
  have s0:Same H (upd H fo (.lst [])):=Same.new hfo
  refine⟨_,rfl,a,nb,as,rfl,N.mono s0,n32,fun H1 p1 s1 hp1 h1=>?_⟩
  refine⟨_,rfl,_,rfl,a,p1,nb,as,List.range nb.length,_,rfl,(N.mono s0).mono s1,h1,O,fun H2 p2 s2 hp2 h2=>?_⟩
  let Inv:Nat→L2.St→Hp→Prop:=fun k σ H'=>∃(qp qd:Addr) (ps:List Addr),σ=[some (.ref a),some (.ref fo),some (.ref qp),some (.ref qd)]∧Same H H'∧kH H' fo nb ps∧ps.length=k∧PartAt H' qp (List.range nb.length) (csN nb k)∧PartAt H' qd (List.range nb.length) (csN nb (k+1))
  have app:∀(H':Hp) (ps:List Addr) (q:Addr),kH H' fo nb ps→PartAt H' q (List.range nb.length) (csN nb ps.length)→kH (upd H' fo (.lst (ps.map V.ref++[V.ref q]))) fo nb (ps++[q]):=by
   intro H' ps q PA hq
   refine⟨by rw[ah,map_append];rfl,fun j x hx=>?_⟩
   by_cases hj:j<ps.length
   ·rw[List.getElem?_append_left hj]at hx
    have:=PA.row j x hx
    show upd H' fo _ x=_
    rw[ao (dY this PA.lst (fun z=>nomatch z))]
    exact this
   ·rw[List.getElem?_append_right (by omega)]at hx
    have hj0:j - ps.length=0:=by
     cases e:j - ps.length with
     |zero=>rfl
     |succ m=>rw[e]at hx;simp at hx
    rw[hj0]at hx
    have eq:q=x:=by simpa using hx
    have ej:j=ps.length:=by omega
    subst eq
    rw[ej]
    show upd H' fo _ q=_
    rw[ao (dY hq PA.lst (fun z=>nomatch z))]
    exact hq
  refine⟨fun m σ H'=>∃ k,k≤r∧m=r - k∧Inv k σ H',⟨r,0,zero_le _,rfl,p1,p2,[],rfl,(s0.trans s1).trans s2,⟨s2 _ _ (s1 _ _ ah),fun k q z=>by simp at z⟩,rfl,h1.mono s2,h2⟩,?_⟩
  rintro m σ H' ⟨j,hj,rfl,qp,qd,ps,rfl,sH,PA,hlen,hqp,hqd⟩
  refine⟨_,rfl,_,rfl,qd,qp,_,_,rfl,rfl,hqd,hqp,fun x hx=>?_,fun x hx=>?_,fun x hx=>?_,by rw[aT,aT],_,rfl,?_⟩
  ·obtain⟨p,_,rfl⟩:=mem_map.mp hx
   exact⟨_,rfl⟩
  ·obtain⟨p,_,rfl⟩:=mem_map.mp hx
   exact⟨_,rfl⟩
  ·obtain⟨p,hp,rfl⟩:=mem_map.mp hx
   show(bj _ (Sum.inl ((p:Nat):Int))).isSome=true
   rw[cg,decide_eq_true hp]
  rw[yS]
  have PA':ps.length=j:=hlen
  refine aK (fun hc=>?_) (fun hc=>?_)
  ·have ne:¬∀ p∈List.range nb.length,csN nb (j+1) p=csN nb j p:=by simpa using hc
   have hjr:j<r:=by
    refine Classical.byContradiction fun z=>ne fun p hp=>?_
    have e:j=r:=by omega
    rw[e]
    exact S.rest p (mem_range.mp hp)
   refine⟨fun σ' H'=>j+1≤r∧Inv (j+1) σ' H',fun σ' H2 z=>⟨r - (j+1),by omega,j+1,z.1,rfl,z.2⟩,?_⟩
   refine⟨_,rfl,.inl ⟨rfl,_,SqL.of PA.lst⟩,_,rfl,fo,_,_,rfl,rfl,PA.lst,by rw[length_map,hlen];exact aC (by omega),?_⟩
   have PA2:=app H' ps qp PA (by rw[hlen];exact hqp)
   have nfo:∀(q:Addr) (kvs:List (Key×V)),H' q=some (.dK kvs)→q≠fo:=fun q kvs e=>dY e PA.lst (fun z=>nomatch z)
   have hqd2:PartAt (upd H' fo (.lst (ps.map V.ref++[V.ref qp]))) qd (List.range nb.length) (csN nb (j+1)):=by
    show upd H' fo _ qd=_
    rw[ao (nfo _ _ hqd)]
    exact hqd
   have sH2:Same H (upd H' fo (.lst (ps.map V.ref++[V.ref qp]))):=sH.put hfo
   refine⟨_,rfl,_,rfl,_,rfl,a,qd,nb,as,List.range nb.length,_,rfl,N.mono sH2,hqd2,O,fun H3 p3 s3 hp3 h3=>⟨hjr,qd,p3,ps++[qp],rfl,sH2.trans s3,⟨s3 _ _ PA2.lst,fun k q z=>(PA2.row k q z).mono s3⟩,by simp[hlen],hqd2.mono s3,h3⟩⟩
  ·have eq:∀ p∈List.range nb.length,csN nb (j+1) p=csN nb j p:=by simpa using hc
   have hjr:j=r:=by
    refine Classical.byContradiction fun z=>?_
    obtain⟨p,hp,ne⟩:=S.not j (by omega)
    exact ne (eq p (mem_range.mpr hp))
   refine⟨_,rfl,.inl ⟨rfl,_,SqL.of PA.lst⟩,_,rfl,fo,_,_,rfl,rfl,PA.lst,by rw[length_map,hlen];exact aC (by omega),_,rfl,?_⟩
   exact k _ fo (ps++[qp]) (sH.put hfo) hfo (app H' ps qp PA (by rw[hlen];exact hqp)) (by simp[hlen,hjr])
end
structure Sq(m:List (List Nat)):Prop where
 len:m.length≤16
 row:∀ r∈m,r.length=m.length
theorem cV(m:List (List Nat))(b:Nat):(nbs m b).length=m.length:=by simp[nbs]
theorem sj(r:List Nat)(b:Nat):(marks r b).Nodup:=by
 unfold marks
 exact GS.a8 (List.Nodup.sublist filter_sublist nodup_range) fun u v _ _ e=>by
  have e':b+u=b+v:=e
  omega
theorem kJ{m:List (List Nat)}{b:Nat}(S:Sq m){r:List Nat}(h:r∈nbs m b):r.Nodup∧r.length≤16:=by
 obtain⟨x,hx,rfl⟩:=mem_map.mp h
 refine⟨sj x b,?_⟩
 have:=oG x b
 have:=S.row x hx
 have:=S.len
 omega
theorem rF{m:List (List Nat)}(S:Sq m):NbOk (nbs m 0) (List.range (nbs m 0).length):=
 ⟨nodup_range,fun r hr=>(kJ S hr).1,fun r hr=>(kJ S hr).2,fun p hp=>mem_range.mp hp,by rw[length_range,cV];have:=S.len;omega⟩
theorem bW(m m2:List (List Nat)):(nb2 m m2).length=m.length+m2.length:=by unfold nb2;rw[length_append,cV,cV]
theorem uS{m m2:List (List Nat)}(S:Sq m)(S2:Sq m2){r:List Nat}(h:r∈nb2 m m2):r.Nodup∧r.length≤16:=by
 rcases mem_append.mp h with h|h
 ·exact kJ S h
 ·exact kJ S2 h
theorem iY{m m2:List (List Nat)}(S:Sq m)(S2:Sq m2){L:List Nat}(nL:L.Nodup)(lt:∀ p∈L,p<m.length+m2.length):NbOk (nb2 m m2) L:=
 ⟨nL,fun r hr=>(uS S S2 hr).1,fun r hr=>(uS S S2 hr).2,fun p hp=>by rw[bW];exact lt p hp,by
  have h1:=GS.mB nL lt
  have:=S.len
  have:=S2.len
  omega⟩
section
abbrev jJ:Stmt:=top 7
theorem pG:ax ["joined"] ["joined"] (ak jJ):=fsc
def iZ:Sp:=fun vs H Q _=>∃(a:Addr) (m:List (List Nat)) (as:List Addr) (r:Nat),vs=[.ref a]∧MatAt H a m as∧Sq m∧GS.qb (aI (nbs m 0)) (nbs m 0).length r∧r≤32∧∀ H' p,Same H H'→H p=none→H' p=some (.lst ((List.range m.length).map fun u=>V.int (csN (nbs m 0) r u)))→Q (.ref p) H'
theorem yV{α:Type}{l:List α}{k:Nat}(h:l.length=k+1):∃ x,l[k]?=some x∧∀ f:α→V,atI (l.map f) (-1)=some (f x):=by
 have hk:k<l.length:=by omega
 refine⟨l[k],List.getElem?_eq_getElem hk,fun f=>?_⟩
 have e:l=l.take k++[l[k]]:=by
  have:=take_append_drop k l
  rw[List.drop_eq_getElem_cons hk,List.drop_eq_nil_of_le (by omega)]at this
  exact this.symm
 have e2:l.map f=(l.take k).map f++[f l[k]]:=by
  conv=>lhs;rw[e]
  rw[map_append]
  rfl
 rw[e2,xf]
theorem nz{f:Addr}{fd:FuncData}(F:Fun K "least_alike" "least_alike" jJ f fd)(T:Txt K mg){f1:Addr}{fd1:FuncData}(C1:Cal P w K mg base 2 "alone" ["joined"] j8 f1 fd1){f2:Addr}{fd2:FuncData}(C2:Cal P w K mg base 2 "partings" ["near"] fc f2 fd2):
  FnOk P w K mg base CX0 3 f fd ["joined"] iZ:=by
 refine F.ok pG (fun vs H Q E h=>?_) (fun cdv A outer s H vs Q E hr h=>?_)
 ·obtain⟨a,m,as,r,rfl,_⟩:=h
  rfl
 ·obtain⟨a,m,as,r,rfl,M,S,St,hr32,k⟩:=h
  refine⟨_,aj (au (aV (kT hr.hd) (by rfl) T.list (by decide +kernel) (ae (oU (qA kI (aq C2 hr (ae (aq C1 hr (ae (pv 0) ai)) ai)) (xG uw az) (fun _ _=>rfl))) ai))),?_⟩
  refine⟨_,rfl,a,m,as,rfl,M,S.len,S.row,fun H1 p1 ps1 s1 hp1 N1=>⟨p1,nbs m 0,ps1,r,rfl,N1,rF S,St,hr32,fun H2 p2 qs s2 hp2 PA hl=>?_⟩⟩
  obtain⟨q,hq,hlast⟩:=yV hl
  have hQ:=PA.row r q hq
  refine⟨_,rfl,p2,_,_,_,rfl,rfl,SqL.of PA.lst,hlast V.ref,q,rfl,.inl ⟨_,.inl hQ⟩,fun v hv=>?_⟩
  have s3:Same H2 (upd H2 v (VW v q)):=Same.new hv
  refine⟨v,q,_,rfl,ah,.inl ⟨_,.inl (hQ.mono s3),rfl⟩,fun p hp=>?_⟩
  have s4:=((s1.trans s2).trans s3)
  refine k _ p (s4.trans (Same.new hp)) (s4.free hp) ?_
  rw[ah,map_map,cV]
  rfl
abbrev gN:Stmt:=top 8
theorem lC:ax ["joined"] ["joined"] (ak gN):=fsc
def fk:Sp:=fun vs H Q _=>∃(a:Addr) (m:List (List Nat)) (as:List Addr) (r:Nat),vs=[.ref a]∧MatAt H a m as∧Sq m∧GS.qb (aI (nbs m 0)) (nbs m 0).length r∧r≤32∧∀ H',Same H H'→Q (.int (r:Nat)) H'
theorem jV{f:Addr}{fd:FuncData}(F:Fun K "rounds_needed" "rounds_needed" gN f fd)(T:Txt K mg){f1:Addr}{fd1:FuncData}(C1:Cal P w K mg base 2 "alone" ["joined"] j8 f1 fd1){f2:Addr}{fd2:FuncData}(C2:Cal P w K mg base 2 "partings" ["near"] fc f2 fd2):
  FnOk P w K mg base CX0 3 f fd ["joined"] fk:=by
 refine F.ok lC (fun vs H Q E h=>?_) (fun cdv A outer s H vs Q E hr h=>?_)
 ·obtain⟨a,m,as,r,rfl,_⟩:=h
  rfl
 ·obtain⟨a,m,as,r,rfl,M,S,St,hr32,k⟩:=h
  refine⟨_,aj (au (a0 i9 (aS (K:=K) rfl T.len (aq C2 hr (ae (aq C1 hr (ae (pv 0) ai)) ai))) az)),?_⟩
  refine⟨_,rfl,a,m,as,rfl,M,S.len,S.row,fun H1 p1 ps1 s1 hp1 N1=>⟨p1,nbs m 0,ps1,r,rfl,N1,rF S,St,hr32,fun H2 p2 qs s2 hp2 PA hl=>?_⟩⟩
  refine⟨p2,_,rfl,.inl (SqL.of PA.lst),_,_,rfl,rfl,?_⟩
  have e:(((qs.map V.ref).length:Nat):Int) - 1=(r:Nat):=by rw[length_map,hl];omega
  show Q (V.int ((((qs.map V.ref).length:Nat):Int) - 1)) H2
  rw[e]
  exact k H2 (s1.trans s2)
abbrev jG:Stmt:=top 9
theorem scDepthApart:ax ["first","second","u","v","found","depth"] ["first","second","u","v"] (ak jG):=fsc
def iW:Sp:=fun vs H Q _=>∃(a b:Addr) (m m2:List (List Nat)) (as bs:List Addr) (u v r:Nat),vs=[.ref a,.ref b,.int (u:Nat),.int (v:Nat)]∧MatAt H a m as∧MatAt H b m2 bs∧Sq m∧Sq m2∧u<m.length∧v<m2.length∧GS.qb (aI (nb2 m m2)) (nb2 m m2).length r∧r≤32∧
 ((∀ k,k≤r→csN (nb2 m m2) k u=csN (nb2 m m2) k (m.length+v))→∀ H',Same H H'→Q .non H')∧(∀ k,k≤r→csN (nb2 m m2) k u≠csN (nb2 m m2) k (m.length+v)→(∀ j,j<k→csN (nb2 m m2) j u=csN (nb2 m m2) j (m.length+v))→∀ H',Same H H'→Q (.int (k:Nat)) H')
theorem nh{f:Addr}{fd:FuncData}(F:Fun K "depth_apart" "depth_apart" jG f fd)(T:Txt K mg){f1:Addr}{fd1:FuncData}(C1:Cal P w K mg base 3 "side_by_side" ["first","second"] jg f1 fd1){f2:Addr}{fd2:FuncData}(C2:Cal P w K mg base 2 "partings" ["near"] fc f2 fd2):
  FnOk P w K mg base CX0 4 f fd ["first","second","u","v"] iW:=by
 refine F.ok scDepthApart (fun vs H Q E h=>?_) (fun cdv A outer s H vs Q E hr h=>?_)
 ·obtain⟨a,b,m,m2,as,bs,u,v,r,rfl,_⟩:=h
  rfl
 ·obtain⟨a,b,m,m2,as,bs,u,v,r,rfl,M,M2,S,S2,hu',hv',St,hr32,kn,ks⟩:=h
  have nd:=scDepthApart.nd
  have hu:=cf hr
  have hr2:Room 2 _:=hr.mono (by decide)
  refine⟨_,af (ay (i:=4) nd rfl (Or.inl rfl) (aq C2 hr2 (ae (aq C1 hr (ae (pv 0) (ae (pv 1) ai))) ai)))
   (af (bC PassesOwn.never rfl (a5 rfl T.range (ae (aS (K:=K) rfl T.len (pv 4)) ai)) (aA (i:=5) nd rfl (Or.inl rfl))
    (aj (aQ (aH rD (a4 hu (aF (K:=K) rfl (pv 4) (pv 5)) (pv 2) (fun _ _=>rfl)) (a4 hu (aF (K:=K) rfl (pv 4) (pv 5)) (a0 cJ (aS (K:=K) rfl T.len (pv 0)) (pv 3)) (fun _ _=>rfl)) (nomark _)) (aj (au (pv 5))) aG)))
   (aj (au cz))),?_⟩
  refine⟨_,rfl,_,rfl,a,b,m,m2,as,bs,rfl,M,M2,S.len,S.row,S2.len,S2.row,fun H1 p1 ps1 s1 hp1 N1=>?_⟩
  have lt2:∀ p∈List.range (nb2 m m2).length,p<m.length+m2.length:=fun p hp=>by rw[← bW];exact mem_range.mp hp
  refine⟨p1,nb2 m m2,ps1,r,rfl,N1,iY S S2 nodup_range lt2,St,hr32,fun H2 p2 qs s2 hp2 PA hl=>?_⟩
  have s12:=s1.trans s2
  refine⟨_,rfl,p2,_,rfl,.inl (SqL.of PA.lst),_,rfl,by rw[length_map,hl];omega,by rw[length_map,hl];omega,cX (n:=_) (fun i σ H'=>∃ x:Option V,σ=[some (.ref a),some (.ref b),some (.int (u:Nat)),some (.int (v:Nat)),some (.ref p2),x]∧Same H2 H'∧i≤r+1∧∀ j,j<i→csN (nb2 m m2) j u=csN (nb2 m m2) j (m.length+v))
   ⟨none,rfl,Same.refl _,zero_le _,fun j hj=>by omega⟩ ?_ ?_⟩
  ·rintro i σ H' hi ⟨x,rfl,s3,hir,al⟩
   have hi':i<r+1:=by simpa [hl]using hi
   obtain⟨q,hq⟩:∃ q,qs[i]?=some q:=⟨_,List.getElem?_eq_getElem (by omega)⟩
   have hQ:=(PA.row i q hq).mono s3
   have ei:(0+(i:Int))=((i:Nat):Int):=by omega
   have g1:DGet H' q (V.int ((u:Nat):Int)) (some (V.int (csN (nb2 m m2) i u))):=by
    have:=DGet.k (k:=Sum.inl ((u:Nat):Int)) hQ
    rw[bQ,if_pos (by rw[mem_range,bW];omega)]at this
    exact this
   have ev:(((as.map V.ref).length:Nat):Int)+((v:Nat):Int)=((m.length+v:Nat):Int):=by rw[length_map,M.len];omega
   have g2:DGet H' q (V.int ((((as.map V.ref).length:Nat):Int)+((v:Nat):Int))) (some (V.int (csN (nb2 m m2) i (m.length+v)))):=by
    rw[ev]
    have:=DGet.k (k:=Sum.inl ((m.length+v:Nat):Int)) hQ
    rw[bQ,if_pos (by rw[mem_range,bW];omega)]at this
    exact this
   have lst:=s3 _ _ PA.lst
   refine⟨_,rfl,_,rfl,p2,_,_,_,rfl,rfl,SqL.of lst,cQ (j:=i) ei (bo hq),_,rfl,q,_,rfl,g1,_,rfl,_,rfl,p2,_,_,_,rfl,rfl,SqL.of lst,cQ (j:=i) ei (bo hq),_,rfl,a,_,rfl,.inl (SqL.of (s3 _ _ (s12 _ _ M.lst))),_,rfl,_,_,rfl,rfl,q,_,rfl,g2,rfl,_,rfl,?_⟩
   refine aK (fun hc=>?_) (fun hc=>?_)
   ·have ne:csN (nb2 m m2) i u≠csN (nb2 m m2) i (m.length+v):=by simpa using hc
    refine⟨_,rfl,?_⟩
    show Q (V.int (0+(i:Int))) H'
    rw[ei]
    exact ks i (by omega) ne al H' (s12.trans s3)
   ·have eq:csN (nb2 m m2) i u=csN (nb2 m m2) i (m.length+v):=by simpa using hc
    refine⟨_,rfl,s3,by omega,fun j hj=>?_⟩
    rcases lt_or_eq_of_le (Nat.le_of_lt_succ hj)with z|z
    ·exact al j z
    ·rw[z];exact eq
  ·rintro σ H' ⟨x,rfl,s3,hir,al⟩
   refine kn (fun j hj=>al j ?_) H' (s12.trans s3)
   simp[hl]
   omega
end
section
theorem PartAt.get{H:Hp}{a:Addr}{L:List Nat}{c:Nat→Int}(h:PartAt H a L c){p:Nat}(hp:p∈L):DGet H a (V.int ((p:Nat):Int)) (some (V.int (c p))):=by
 have:=DGet.k (k:=Sum.inl ((p:Nat):Int)) h
 rw[bQ,if_pos hp]at this
 exact this
theorem vv{H:Hp}{a:Addr}{ns:List Int}(h:H a=some (.lst (ns.map V.int))):Dp K H (.ref a) (.list (ns.map PyData.int)):=by
 refine .lst (SqL.of h) ?_
 clear h
 induction ns with
 |nil=>exact .nil
 |cons n ns ih=>exact .cons (.int n) ih
theorem iw(ns:List Int):SeqAt.shaped (.list (ns.map PyData.int))=true:=by
 have h1:PyData.canLay0 (.list (ns.map PyData.int))=true:=by
  show PyData.canLayAll0 (ns.map PyData.int)=true
  exact l4 ns
 have h2:(PyData.list (ns.map PyData.int)).depth=1:=by
  show PyData.depthAll (ns.map PyData.int)+1=1
  rw[hU]
 unfold SeqAt.shaped
 rw[h1,h2]
 rfl
abbrev iV:Stmt:=top 10
theorem scIsEven:ax ["parting","points","images","point","image"] ["parting","points","images"] (ak iV):=fsc
def r6:Sp:=fun vs H Q _=>∃(a b d:Addr) (L A B:List Nat) (c:Nat→Int),vs=[.ref a,.ref b,.ref d]∧PartAt H a L c∧aJ H b A∧aJ H d B∧(∀ p∈A,p∈L)∧(∀ p∈B,p∈L)∧A.length≤16∧B.length≤16∧∀ H',Same H H'→Q (.bl (decide (srt (A.map c)=srt (B.map c)))) H'
theorem vR{f:Addr}{fd:FuncData}(F:Fun K "is_even" "is_even" iV f fd)(T:Txt K mg):FnOk P w K mg base CX0 1 f fd ["parting","points","images"] r6:=by
 refine F.ok scIsEven (fun vs H Q E h=>?_) (fun cdv Ar outer s H vs Q E hr h=>?_)
 ·obtain⟨a,b,d,L,A,B,c,rfl,_⟩:=h
  rfl
 ·obtain⟨a,b,d,L,A,B,c,rfl,hP,hA,hB,inA,inB,lA,lB,k⟩:=h
  have nd:=scIsEven.nd
  have hu:=cf hr
  have hu64:(Ar.deeper (envOfC "is_even" (ak iV) s.heap.objs.size f cdv)).units+64<cLine:=by have:=hr.un;omega
  refine⟨_,aj (au (cD (Av hu64)
   (bx jr (by rfl) T.sorted (by decide +kernel) (ae (bL rfl nd (aY (pv 1)) (aM (own:=[("point",3)]) (show bX ["parting","points","images","point","image"] (ak iV) _ _=true by decide +kernel)) (fun _ _ _ _ _=>aA (i:=3) nd rfl (Or.inl rfl)) (fun _ _ _ _ _=>aU) (fun _ _ _ _ _=>a4 hu (pv 0) (pv 3) (fun _ _=>rfl))) ai))
   (bx jr (by rfl) T.sorted (by decide +kernel) (ae (bL rfl nd (aY (pv 2)) (aM (own:=[("image",4)]) (show bX ["parting","points","images","point","image"] (ak iV) _ _=true by decide +kernel)) (fun _ _ _ _ _=>aA (i:=4) nd rfl (Or.inl rfl)) (fun _ _ _ _ _=>aU) (fun _ _ _ _ _=>a4 hu (pv 0) (pv 4) (fun _ _=>rfl))) ai)) (nomark _))),?_⟩
  have step:∀(X:List Nat) (i:Nat) (x:V),(∀ p∈X,p∈L)→(nums X)[i]?=some x→∃ p,p∈L∧x= .int ((p:Nat):Int)∧X.getD i 0=p:=fun X i x hX hx=>by
   obtain⟨p,hp,e⟩:=aX hx
   exact⟨p,hX p (mem_of_getElem? hp),e,by rw[getD_eq_getElem?_getD,hp];rfl⟩
  refine⟨_,rfl,b,rfl,⟨_,SqL.of hA⟩,fun D hD=>?_⟩
  refine bA hD (aN (SqL.of hA)) (Same.refl _) (fun i=>V.int (c (A.getD i 0))) (by rw[length_map];omega) ?_ ?_
  ·intro i x H' C N hi sH hx cont
   obtain⟨p,hp,rfl,e⟩:=step A i x inA hx
   rw[e]at cont
   exact⟨rfl,lcY ⟨_,rfl,_,rfl,a,_,rfl,(hP.mono sH).get hp,cont H' (Same.refl _)⟩⟩
  ·intro H1 s1 h1
   rw[length_map,bY A 0 (fun p=>V.int (c p)),show A.map (fun p=>V.int (c p))=(A.map c).map V.int by rw[map_map];rfl]at h1
   refine⟨D,A.map c,rfl,SqL.of h1,by rw[length_map];omega,fun ns1 q1 pm1 so1 hq1=>?_⟩
   have e1:=tD pm1 so1
   subst e1
   have s2:Same H1 (upd H1 q1 (.lst ((srt (A.map c)).map V.int))):=Same.new hq1
   have hB2:=s2 _ _ (s1 _ _ hB)
   have s12:=s1.trans s2
   refine⟨_,rfl,d,rfl,⟨_,SqL.of hB2⟩,fun D2 hD2=>?_⟩
   refine bA hD2 (aN (SqL.of hB2)) (Same.refl _) (fun i=>V.int (c (B.getD i 0))) (by rw[length_map];omega) ?_ ?_
   ·intro i x H' C N hi sH hx cont
    obtain⟨p,hp,rfl,e⟩:=step B i x inB hx
    rw[e]at cont
    exact⟨rfl,lcY ⟨_,rfl,_,rfl,a,_,rfl,((hP.mono s12).mono sH).get hp,cont H' (Same.refl _)⟩⟩
   ·intro H3 s3 h3
    rw[length_map,bY B 0 (fun p=>V.int (c p)),show B.map (fun p=>V.int (c p))=(B.map c).map V.int by rw[map_map];rfl]at h3
    refine⟨D2,B.map c,rfl,SqL.of h3,by rw[length_map];omega,fun ns2 q2 pm2 so2 hq2=>?_⟩
    have e2:=tD pm2 so2
    subst e2
    have s4:Same H3 (upd H3 q2 (.lst ((srt (B.map c)).map V.int))):=Same.new hq2
    refine⟨_,_,vv (s4 _ _ (s3 _ _ ah)),vv ah,iw _,iw _,?_⟩
    have:=k _ ((s12.trans s3).trans s4)
    rw[← gh]at this
    exact this
abbrev fX:Stmt:=top 11
theorem scCountParts:ax ["parting","point"] ["parting"] (ak fX):=fsc
def iz:Sp:=fun vs H Q _=>∃(a:Addr) (L:List Nat) (c:Nat→Int),vs=[.ref a]∧PartAt H a L c∧L.length≤32∧∀ H' n,Same H H'→GS.Kinds (L.map c) n→Q (.int (n:Nat)) H'
theorem nj{f:Addr}{fd:FuncData}(F:Fun K "count_parts" "count_parts" fX f fd)(T:Txt K mg):FnOk P w K mg base CX0 1 f fd ["parting"] iz:=by
 refine F.ok scCountParts (fun vs H Q E h=>?_) (fun cdv Ar outer s H vs Q E hr h=>?_)
 ·obtain⟨a,L,c,rfl,_⟩:=h
  rfl
 ·obtain⟨a,L,c,rfl,hP,hl,k⟩:=h
  have nd:=scCountParts.nd
  have hu:=cf hr
  refine⟨_,aj (au (bx zo (by rfl) T.len PySem.boot_len (ae (aV (Ac hr.hd) (by rfl) T.set (by decide +kernel) (ae (pS (bL rfl nd (gF (pv 0)) (aM (own:=[("point",1)]) (show bX ["parting","point"] (ak fX) _ _=true by decide +kernel)) (fun _ _ _ _ _=>aA (i:=1) nd rfl (Or.inl rfl)) (fun _ _ _ _ _=>aU) (fun _ _ _ _ _=>a4 hu (pv 0) (pv 1) (fun _ _=>rfl)))) ai)) ai))),?_⟩
  refine⟨a,_,hP,True.intro,fun od=>⟨_,rfl,a,od,rfl,.inl ⟨_,ah,fun D hD=>?_⟩⟩⟩
  refine bA hD (gE ah) (Same.refl _) (fun i=>V.int (c (L.getD i 0))) (show(dct L fun p=>V.int (c p)).length≤1000 by rw[aT];omega) ?_ ?_
  ·rintro i x H' C N hi sH ⟨key,v,hk,rfl⟩ cont
   obtain⟨p,hp,ekv⟩:=aX hk
   cases ekv
   have e:L.getD i 0=p:=by rw[getD_eq_getElem?_getD,hp];rfl
   rw[e]at cont
   have hg:=pK (sH _ _ ah) (Sum.inl ((p:Nat):Int))
   rw[bQ,if_pos (mem_of_getElem? hp)]at hg
   exact⟨rfl,lcY ⟨_,rfl,_,rfl,a,_,rfl,hg,cont H' (Same.refl _)⟩⟩
  ·intro H1 s1 h1
   rw[aT,bY L 0 (fun p=>V.int (c p)),show L.map (fun p=>V.int (c p))=(L.map c).map V.int by rw[map_map];rfl]at h1
   refine⟨s1 _ _ ah,?_⟩
   have Dn:D≠a:=fun z=>by rw[z,ah]at hD;cases hD
   have s2:Same H (upd H1 a (.dK (dct L fun p=>V.int (c p)))):=unlock hP s1
   refine⟨D,L.map c,rfl,SqL.of (by rw[ao Dn];exact h1),?_,fun p S n hp hn=>⟨p,S,n,rfl,ah,k _ n (s2.trans (Same.new hp)) hn⟩⟩
   rw[length_map]
   have:34<scanBound:=by decide +kernel
   omega
end
section
abbrev iH:Stmt:=top 12
theorem scEvenParting:ax ["near","parting","points","images","before","parts"] ["near","parting","points","images"] (ak iH):=fsc
def dD:Sp:=fun vs H Q _=>∃(a b d e:Addr) (nb:List (List Nat)) (as:List Addr) (A B:List Nat) (c:Nat→Int),vs=[.ref a,.ref b,.ref d,.ref e]∧NearAt H a nb as∧PartAt H b (A++B) c∧aJ H d A∧aJ H e B∧NbOk nb (A++B)∧A.length≤16∧B.length≤16∧GS.Sides (aI nb) A B∧
 (∀ k,¬((A.map (GS.cs (aI nb) (A++B) c k)).Perm (B.map (GS.cs (aI nb) (A++B) c k)))→∀ H',Same H H'→Q .non H')∧
 (∀ k,(A.map (GS.cs (aI nb) (A++B) c k)).Perm (B.map (GS.cs (aI nb) (A++B) c k))→GS.qV (aI nb) (A++B) (GS.cs (aI nb) (A++B) c k)→GS.Deepest (aI nb) c (GS.cs (aI nb) (A++B) c k) A B→∀ H' q,Same H H'→PartAt H' q (A++B) (GS.cs (aI nb) (A++B) c k)→Q (.ref q) H')
theorem ux{L:List Nat}{c:Nat→Int}(h:GS.Kinds (L.map c) 0):L=[]:=by
 obtain⟨Y,_,b,e⟩:=h
 have:Y=[]:=length_eq_zero_iff.mp e
 subst this
 cases L with
 |nil=>rfl
 |cons p L=>exact absurd ((b (c p)).mpr (by simp)) (by simp)
theorem lr{f:Addr}{fd:FuncData}(F:Fun K "even_parting" "even_parting" iH f fd)(T:Txt K mg){f1:Addr}{fd1:FuncData}(C1:Cal P w K mg base 1 "is_even" ["parting","points","images"] r6 f1 fd1){f2:Addr}{fd2:FuncData}(C2:Cal P w K mg base 1 "count_parts" ["parting"] iz f2 fd2)
  {f3:Addr} {fd3:FuncData} (C3:Cal P w K mg base 1 "deeper_parting" ["near","parting"] mr f3 fd3):FnOk P w K mg base CX0 2 f fd ["near","parting","points","images"] dD:=by
 refine F.ok scEvenParting (fun vs H Q E h=>?_) (fun cdv Ar outer s H vs Q E hr h=>?_)
 ·obtain⟨a,b,d,e,nb,as,A,B,c,rfl,_⟩:=h
  rfl
 ·obtain⟨a,b,d,e,nb,as,A,B,c,rfl,N,hP,hA,hB,O,lA,lB,S,kn,ks⟩:=h
  have nd:=scEvenParting.nd
  refine⟨_,af (ay (i:=4) nd rfl (Or.inl rfl) az)
   (af (dR PassesOwn.never (bS (aq C1 hr (ae (pv 1) (ae (pv 2) (ae (pv 3) ai)))))
    (af (ay (i:=5) nd rfl (Or.inl rfl) (aq C2 hr (ae (pv 1) ai)))
    (af (aQ (aH bE (pv 5) (pv 4) (nomark _)) (aj (au (pv 1))) aG)
    (af (ay (i:=4) nd rfl (Or.inl rfl) (pv 5)) (aj (ay (i:=1) nd rfl (Or.inl rfl) (aq C3 hr (ae (pv 0) (ae (pv 1) ai)))))))))
   (aj (au cz))),?_⟩
  have l32:(A++B).length≤32:=O.few
  let Inv:Nat→L2.St→Hp→Prop:=fun k σ H'=>∃(q:Addr) (bf:Nat) (v:Option V),σ=[some (.ref a),some (.ref q),some (.ref d),some (.ref e),some (.int (bf:Nat)),v]∧Same H H'∧PartAt H' q (A++B) (GS.cs (aI nb) (A++B) c k)∧bf≤32∧((k=0∧bf=0)∨∃ j,k=j+1∧GS.Kinds ((A++B).map (GS.cs (aI nb) (A++B) c j)) bf)
  refine⟨fun m σ H'=>∃ k,Inv k σ H'∧∃ bf:Nat,σ[4]?=some (some (V.int (bf:Nat)))∧bf≤32∧m=33 - bf,⟨33,0,⟨b,0,none,rfl,Same.refl _,hP,by omega,.inl ⟨rfl,rfl⟩⟩,0,rfl,by omega,rfl⟩,?_⟩
  rintro m σ H' ⟨k,⟨q,bf,v,rfl,sH,hq,hbf,hk⟩,bf',ebf,_,rfl⟩
  have ebf':bf=bf':=by
   have:V.int ((bf:Nat):Int)=V.int ((bf':Nat):Int):=Option.some.inj (Option.some.inj ebf)
   have:=V.int.inj this
   omega
  subst ebf'
  refine⟨_,rfl,_,rfl,_,rfl,q,d,e,A++B,A,B,_,rfl,hq,sH _ _ hA,sH _ _ hB,fun p hp=>mem_append_left _ hp,fun p hp=>mem_append_right _ hp,lA,lB,fun H1 s1=>⟨_,rfl,?_⟩⟩
  have sH1:=sH.trans s1
  refine aK (fun hc=>?_) (fun hc=>?_)
  ·have pm:(A.map (GS.cs (aI nb) (A++B) c k)).Perm (B.map (GS.cs (aI nb) (A++B) c k)):=srt_iff.mp (of_decide_eq_true hc)
   refine⟨fun σ' H'=>∃ bf2:Nat,bf<bf2∧bf2≤32∧σ'[4]?=some (some (V.int (bf2:Nat)))∧Inv (k+1) σ' H',fun σ' H2 ⟨bf2,l1,l2,e4,I⟩=>⟨33 - bf2,by omega,k+1,I,bf2,e4,l2,rfl⟩,?_⟩
   refine⟨_,rfl,q,A++B,_,rfl,hq.mono s1,l32,fun H2 n s2 hn=>?_⟩
   have hn32:n≤32:=by have:=hn.le;rw[length_map]at this;omega
   refine⟨_,rfl,_,rfl,rfl,_,rfl,?_⟩
   have hq2:=(hq.mono s1).mono s2
   have sH2:=sH1.trans s2
   refine aK (fun hc2=>?_) (fun hc2=>?_)
   ·have en:n=bf:=by
     have:=V.int.inj (of_decide_eq_true hc2)
     omega
    subst en
    refine⟨_,rfl,?_⟩
    rcases hk with⟨rfl,e0⟩|⟨j,rfl,hj⟩
    ·subst e0
     have e0:=ux hn
     have eA:A=[]:=(List.append_eq_nil_iff.mp e0).1
     have eB:B=[]:=(List.append_eq_nil_iff.mp e0).2
     subst eA;subst eB
     exact ks 0 pm (fun p hp=>by simp at hp) (GS.o8 S) H2 q sH2 hq2
    ·have D:=GS.tf S pm hj hn
     exact ks (j+1) pm D.fair.still D H2 q sH2 hq2
   ·have ne:n≠bf:=fun z=>hc2 (by rw[z];simp)
    have gt:bf<n:=by
     rcases hk with⟨rfl,e0⟩|⟨j,rfl,hj⟩
     ·omega
     ·have:=(GS.Kinds.mono hj hn fun p hp q hq z=>((GS.bu hp hq).mp z).1).1
      omega
    refine⟨_,rfl,_,rfl,_,rfl,a,q,nb,as,A++B,_,rfl,N.mono sH2,hq2,O,fun H3 p3 s3 hp3 h3=>⟨n,gt,hn32,rfl,p3,n,_,rfl,sH2.trans s3,h3,hn32,.inr ⟨k,rfl,hn⟩⟩⟩
  ·exact kn k (fun pm=>hc (decide_eq_true (srt_iff.mpr pm))) H1 sH1
abbrev jD:Stmt:=top 13
theorem scEvenGraphs:ax ["first","second","near","points","images"] ["first","second"] (ak jD):=fsc
def bU(n n2:Nat):List Nat:=(List.range n2).map (· +n)
theorem i7(n n2:Nat):List.range n++bU n n2=List.range (n+n2):=by
 rw[List.range_add]
 unfold bU
 congr 1
 exact map_congr_left fun x _=>add_comm _ _
def cy:Sp:=fun vs H Q _=>∃(a b:Addr) (m m2:List (List Nat)) (as bs:List Addr),vs=[.ref a,.ref b]∧MatAt H a m as∧MatAt H b m2 bs∧Sq m∧Sq m2∧GS.Sides (aI (nb2 m m2)) (List.range m.length) (bU m.length m2.length)∧
 (∀ k,¬(((List.range m.length).map (csN (nb2 m m2) k)).Perm ((bU m.length m2.length).map (csN (nb2 m m2) k)))→∀ H',Same H H'→Q .non H')∧
 (∀ k,((List.range m.length).map (csN (nb2 m m2) k)).Perm ((bU m.length m2.length).map (csN (nb2 m m2) k))→GS.qV (aI (nb2 m m2)) (List.range (m.length+m2.length)) (csN (nb2 m m2) k)→GS.Deepest (aI (nb2 m m2)) (fun _=>0) (csN (nb2 m m2) k) (List.range m.length) (bU m.length m2.length)→∀ H' q,Same H H'→PartAt H' q (List.range (m.length+m2.length)) (csN (nb2 m m2) k)→Q (.ref q) H')
theorem eV(n:Nat):(List.range ((n:Int) - 0).toNat).map (fun k=>V.int (0+(k:Nat)))=nums (List.range n):=by
 rw[show((n:Int) - 0).toNat=n by omega]
 refine map_congr_left fun k _=>?_
 rw[Int.zero_add]
theorem rj(n n2:Nat):(List.range (((n+n2:Nat):Int) - (n:Int)).toNat).map (fun k=>V.int ((n:Int)+(k:Nat)))=nums (bU n n2):=by
 rw[show(((n+n2:Nat):Int) - (n:Int)).toNat=n2 by omega]
 unfold bU nums
 rw[map_map]
 refine map_congr_left fun k _=>?_
 show V.int ((n:Int)+(k:Nat))=V.int ((k+n:Nat):Int)
 congr 1
 omega
theorem mV{f:Addr}{fd:FuncData}(F:Fun K "even_graphs" "even_graphs" jD f fd)(T:Txt K mg){f1:Addr}{fd1:FuncData}(C1:Cal P w K mg base 3 "side_by_side" ["first","second"] jg f1 fd1){f2:Addr}{fd2:FuncData}(C2:Cal P w K mg base 1 "whole_parting" ["near"] pJ f2 fd2)
  {f3:Addr} {fd3:FuncData} (C3:Cal P w K mg base 2 "even_parting" ["near","parting","points","images"] dD f3 fd3):FnOk P w K mg base CX0 4 f fd ["first","second"] cy:=by
 refine F.ok scEvenGraphs (fun vs H Q E h=>?_) (fun cdv Ar outer s H vs Q E hr h=>?_)
 ·obtain⟨a,b,m,m2,as,bs,rfl,_⟩:=h
  rfl
 ·obtain⟨a,b,m,m2,as,bs,rfl,M,M2,S,S2,Sd,kn,ks⟩:=h
  have nd:=scEvenGraphs.nd
  have hr1:Room 1 _:=hr.mono (by decide)
  have hr2:Room 2 _:=hr.mono (by decide)
  refine⟨_,af (ay (i:=2) nd rfl (Or.inl rfl) (aq C1 hr (ae (pv 0) (ae (pv 1) ai))))
   (af (ay (i:=3) nd rfl (Or.inl rfl) (aV (eg hr.hd) (by rfl) T.list (by decide +kernel) (ae (aV eE (by rfl) T.range (by decide +kernel) (ae (aS (K:=K) rfl T.len (pv 0)) ai)) ai)))
   (af (ay (i:=4) nd rfl (Or.inl rfl) (aV (eg hr.hd) (by rfl) T.list (by decide +kernel) (ae (aV eE (by rfl) T.range (by decide +kernel) (ae (aS (K:=K) rfl T.len (pv 0)) (ae (aS (K:=K) rfl T.len (pv 2)) ai))) ai)))
   (aj (au (aq C3 hr2 (ae (pv 2) (ae (aq C2 hr1 (ae (pv 2) ai)) (ae (pv 3) (ae (pv 4) ai))))))))),?_⟩
  have l1:=S.len
  have l2:=S2.len
  refine⟨_,rfl,_,rfl,a,b,m,m2,as,bs,rfl,M,M2,S.len,S.row,S2.len,S2.row,fun H1 p1 ps1 s1 hp1 N1=>?_⟩
  have lm:(((as.map V.ref).length:Nat):Int)=((m.length:Nat):Int):=by rw[length_map,M.len]
  have ln:(((ps1.map V.ref).length:Nat):Int)=((m.length+m2.length:Nat):Int):=by rw[length_map,N1.len,bW]
  refine⟨_,rfl,a,_,rfl,.inl (SqL.of (s1 _ _ M.lst)),.inl ⟨_,rfl,fun r1 hr1'=>?_⟩⟩
  rw[lm]
  have t1:Same H1 (upd H1 r1 (.rng 0 ((m.length:Nat):Int))):=Same.new hr1'
  refine⟨r1,0,_,rfl,ah,by omega,by omega,by omega,by omega,fun p3 hp3=>?_⟩
  rw[eV]
  have t2:=t1.trans (Same.new (o:= .lst (nums (List.range m.length))) hp3)
  have N2:=N1.mono t2
  refine⟨_,rfl,a,_,rfl,.inl (SqL.of (t2 _ _ (s1 _ _ M.lst))),_,rfl,p1,_,rfl,.inl (SqL.of N2.lst),.inr ⟨_,_,rfl,fun r2 hr2'=>?_⟩⟩
  rw[lm,ln]
  have t3:=t2.trans (Same.new (o:= .rng ((m.length:Nat):Int) ((m.length+m2.length:Nat):Int)) hr2')
  refine⟨r2,_,_,rfl,ah,by omega,by omega,by omega,by omega,fun p4 hp4=>?_⟩
  rw[rj]
  have u3:Same (upd (upd H1 r1 (.rng 0 ((m.length:Nat):Int))) p3 (.lst (nums (List.range m.length)))) (upd (upd (upd (upd H1 r1 (.rng 0 ((m.length:Nat):Int))) p3 (.lst (nums (List.range m.length)))) r2 (.rng ((m.length:Nat):Int) ((m.length+m2.length:Nat):Int))) p4 (.lst (nums (bU m.length m2.length)))):=(Same.new hr2').trans (Same.new hp4)
  have t4:=t2.trans u3
  have N4:=N1.mono t4
  refine⟨_,rfl,_,rfl,p1,nb2 m m2,ps1,rfl,N4,by rw[bW];omega,fun H5 p5 s5 hp5 h5=>?_⟩
  have s15:=(s1.trans t4).trans s5
  have ea:=i7 m.length m2.length
  have lt2:∀ p∈List.range m.length++bU m.length m2.length,p<m.length+m2.length:=fun p hp=>by rw[ea]at hp;exact mem_range.mp hp
  have ndL:(List.range m.length++bU m.length m2.length).Nodup:=by rw[ea];exact nodup_range
  refine⟨_,rfl,_,rfl,p1,p5,p3,p4,nb2 m m2,ps1,List.range m.length,bU m.length m2.length,(fun _=>0),rfl,N4.mono s5,?_,s5 _ _ (u3 _ _ ah),s5 _ _ ah,iY S S2 ndL lt2,by rw[length_range];exact l1,by unfold bU;rw[length_map,length_range];exact l2,Sd,?_,?_⟩
  ·rw[ea,← bW]
   exact h5
  ·intro k hk H' s'
   refine kn k (fun z=>hk ?_) H' (s15.trans s')
   rw[ea,← bW]
   exact z
  ·intro k hk st De H' q s' hq
   rw[ea,← bW]at hk st De hq
   refine ks k hk ?_ De H' q (s15.trans s') ?_
   ·rw[← bW];exact st
   ·rw[← bW];exact hq
end
abbrev k2(x y:Int):List Key:=[Sum.inl x,Sum.inl y]
theorem k2_inj{x y x' y':Int}:k2 x y=k2 x' y'↔x=x'∧y=y':=by simp[k2]
def gsum(adj:Nat→Nat→Bool)(c:Nat→Int)(L:List Nat)(p:Nat)(x y:Int):Int:=if c p=x then GS.inn adj c L p y+(if x=y then 1 else 0)else 0
def pre(adj:Nat→Nat→Bool)(c:Nat→Int)(L M:List Nat)(x y:Int):Int:=(M.map fun p=>gsum adj c L p x y).sum
theorem yZ(adj:Nat→Nat→Bool)(c:Nat→Int)(L:List Nat)(x y:Int):pre adj c L L x y=GS.sur adj c L x y:=rfl
theorem qZ(l:List Int)(z:Int):(l++[z]).sum=l.sum+z:=by
 rw[List.sum_append]
 simp
theorem yH(adj:Nat→Nat→Bool)(c:Nat→Int)(L M:List Nat)(p:Nat)(x y:Int):pre adj c L (M++[p]) x y=pre adj c L M x y+gsum adj c L p x y:=by
 unfold pre
 rw[map_append]
 exact qZ _ _
theorem yt(adj:Nat→Nat→Bool)(c:Nat→Int)(M:List Nat)(p o:Nat)(y:Int):GS.inn adj c (M++[o]) p y=GS.inn adj c M p y+(if c o=y then(if adj p o=true then 1 else -1)else 0):=by
 unfold GS.inn
 rw[map_append]
 exact qZ _ _
def intOr(o:Option V)(z:Int):Prop:=o=some (.int z)∨(o=none∧z=0)
theorem a6{α:Type}{l:List α}{i:Nat}{x:α}(h:l[i]?=some x):l.take (i+1)=l.take i++[x]:=by
 rw[List.take_add_one,h]
 rfl
section
structure PtsOk(nb:List (List Nat))(PL L:List Nat):Prop where
 up:L.Pairwise (· < ·)
 len:L.length≤16
 lt:∀ p∈L,p<nb.length
 sub:∀ p∈L,p∈PL
theorem bc{L:List Nat}{i:Nat}{x:V}(h:(nums L)[i]?=some x):∃ p,L[i]?=some p∧p∈L∧x= .int ((p:Nat):Int):=by
 obtain⟨p,hp,e⟩:=aX h
 exact⟨p,hp,mem_of_getElem? hp,e⟩
def SurAt(H:Hp)(s:Addr)(adj:Nat→Nat→Bool)(c:Nat→Int)(L:List Nat):Prop:=∃ kvs,H s=some (.dT kvs)∧∀ u∈L,∀ v∈L,bj kvs (k2 (c u) (c v))=some (.int (GS.sur adj c L (c u) (c v)))
abbrev mI:Stmt:=top 23
theorem scSurpluses:ax ["near","parting","points","found","point","other","parts"] ["near","parting","points"] (ak mI):=fsc
def jP:Sp:=fun vs H Q _=>∃(a b d:Addr) (nb:List (List Nat)) (as:List Addr) (PL L:List Nat) (c:Nat→Int),vs=[.ref a,.ref b,.ref d]∧NearAt H a nb as∧PartAt H b PL c∧aJ H d L∧PtsOk nb PL L∧∀ H' s,Same H H'→H s=none→SurAt H' s (aI nb) c L→Q (.ref s) H'
theorem lK{H:Hp}{a:Addr}{nb:List (List Nat)}{as:List Addr}(N:NearAt H a nb as){p:Nat}(hp:p<nb.length):∃ x,atI (as.map V.ref) ((p:Nat):Int)=some (.ref x)∧∀ o:Nat,∃ r,DGet H x (V.int ((o:Nat):Int)) r∧r.isSome=aI nb p o:=by
 obtain⟨x,hx,hd⟩:=N.at_ (List.getElem?_eq_getElem hp)
 refine⟨x,cQ rfl (bo hx),fun o=>⟨_,DGet.k (k:=Sum.inl ((o:Nat):Int)) hd,?_⟩⟩
 rw[cg]
 unfold aI
 rw[getD_eq_getElem?_getD,List.getElem?_eq_getElem hp]
 rfl
theorem pC{f:Addr}{fd:FuncData}(F:Fun K "surpluses" "surpluses" mI f fd):FnOk P w K mg base CX0 1 f fd ["near","parting","points"] jP:=by
 refine F.ok scSurpluses (fun vs H Q E h=>?_) (fun cdv Ar outer s H vs Q E hr h=>?_)
 ·obtain⟨a,b,d,nb,as,PL,L,c,rfl,_⟩:=h
  rfl
 ·obtain⟨a,b,d,nb,as,PL,L,c,rfl,N,hP,hL,O,k⟩:=h
  have nd:=scSurpluses.nd
  have hu:=cf hr
  refine⟨_,af (ay (i:=3) nd rfl (Or.inl rfl) qt)
   (af (bC PassesOwn.never rfl (aY (pv 2)) (aA (i:=4) nd rfl (Or.inl rfl))
    (af (bC PassesOwn.never rfl (aY (pv 2)) (aA (i:=5) nd rfl (Or.inl rfl))
     (af (ay (i:=6) nd rfl (Or.inl rfl) (pZ (ae (a4 hu (pv 1) (pv 4) (fun _ _=>rfl)) (ae (a4 hu (pv 1) (pv 5) (fun _ _=>rfl)) ai))))
     (aj (cA hu (pv 3) (pv 6) (a0 cJ (qK hu (pv 3) (pv 6) az ⟨rfl,rfl,rfl,rfl⟩) (fw (cI (o6 hu (pv 5) (aF (K:=K) rfl (pv 0) (pv 4)))) az (xG uw az))) rfl))))
    (aj (zl hu (pv 3) (pZ (ae (a4 hu (pv 1) (pv 4) (fun _ _=>rfl)) (ae (a4 hu (pv 1) (pv 4) (fun _ _=>rfl)) ai))) az Ae (fun _ _ _=>rfl)))))
   (aj (au (pv 3)))),?_⟩
  intro g hg
  have s0:Same H (upd H g (.dT [])):=Same.new hg
  let J:Nat→Nat→Hp→Prop:=fun i j H'=>Same H H'∧∃ kvs:List (List Key×V),H' g=some (.dT kvs)∧kvs.length≤20*i+j∧
   (∀ x y,intOr (bj kvs (k2 x y)) (pre (aI nb) c L (L.take i) x y+(match L[i]? with|some p=>if c p=x then GS.inn (aI nb) c (L.take j) p y else 0|none=>0)))∧
   (∀ u∈L.take i,∀ v∈L,(bj kvs (k2 (c u) (c v))).isSome=true)∧∀ p,L[i]?=some p→∀ v∈L.take j,(bj kvs (k2 (c p) (c v))).isSome=true
  have lenL:(nums L).length=L.length:=by simp
  refine⟨_,rfl,d,rfl,⟨_,SqL.of (s0 _ _ hL)⟩,bN (aN (K:=K) (SqL.of hL)) (fun i σ H'=>∃ v4 v5 v6:Option V,σ=[some (.ref a),some (.ref b),some (.ref d),some (.ref g),v4,v5,v6]∧J i 0 H')
   ⟨none,none,none,rfl,s0,[],ah,zero_le _,fun x y=> .inr ⟨rfl,?_⟩,fun u hu=>by simp at hu,fun p _ v hv=>by simp at hv⟩ (fun i σ H' ⟨_,_,_,_,s1,_⟩=>s1) calm_list.mono ?_ ?_⟩
  ·cases L with
   |nil=>rfl
   |cons p L=>
    show(0:Int)+(if c p=x then 0 else 0)=0
    split<;>rfl
  ·rintro i x σ H' hi ⟨v4,v5,v6,rfl,sH,kvs0,hg0,hl0,hv0,hold0,hnew0⟩ hx
   obtain⟨p,hp,hpL,rfl⟩:=bc hx
   have hiL:i<L.length:=by rw[← lenL];exact hi
   refine⟨_,rfl,d,rfl,⟨_,SqL.of (sH _ _ hL)⟩,bN (aN (K:=K) (SqL.of hL)) (fun j σ H'=>∃ v5 v6:Option V,σ=[some (.ref a),some (.ref b),some (.ref d),some (.ref g),some (.int ((p:Nat):Int)),v5,v6]∧J i j H')
    ⟨v5,v6,rfl,sH,kvs0,hg0,hl0,hv0,hold0,hnew0⟩ (fun j σ H' ⟨_,_,_,s1,_⟩=>s1) calm_list.mono ?_ ?_⟩
   ·rintro j y σ H1 hj ⟨w5,w6,rfl,sH1,kvs,hg1,hl1,hv1,hold1,hnew1⟩ hy
    obtain⟨o,ho,hoL,rfl⟩:=bc hy
    have hjL:j<L.length:=by rw[← lenL];exact hj
    have hP1:=hP.mono sH1
    refine⟨_,rfl,_,rfl,b,_,rfl,hP1.get (O.sub p hpL),_,rfl,_,rfl,b,_,rfl,hP1.get (O.sub o hoL),by show 2≤sizeLine;decide,fun t ht=>?_⟩
    have s2:Same H1 (upd H1 t (.tup [.int (c p),.int (c o)])):=Same.new ht
    have hg2:=s2 _ _ hg1
    have kt:(upd H1 t (.tup [.int (c p),.int (c o)])) t=some (.tup ((k2 (c p) (c o)).map kV)):=ah
    obtain⟨nx,hnx,hin⟩:=lK (N.mono (sH1.trans s2)) (O.lt p hpL)
    obtain⟨ro,hro,hso⟩:=hin o
    have hval:=hv1 (c p) (c o)
    obtain⟨z,hz,hzz⟩:∃ z,(bj kvs (k2 (c p) (c o))).getD (V.int 0)= .int z∧z=pre (aI nb) c L (L.take i) (c p) (c o)+GS.inn (aI nb) c (L.take j) p (c o):=by
     rw[hp]at hval
     simp only[if_true]at hval
     rcases hval with e|⟨e,e2⟩
     ·exact⟨_,by rw[e];rfl,rfl⟩
     ·exact⟨0,by rw[e];rfl,e2.symm⟩
    refine⟨_,rfl,g,rfl,.inr ⟨_,.inl hg2⟩,_,rfl,_,DGet.t hg2 kt,?_⟩
    rw[hz]
    have tkj:L.take (j+1)=L.take j++[o]:=a6 ho
    have stepJ:∀ e:Int,e=(if aI nb p o=true then 1 else -1)→J i (j+1) (upd (upd H1 t (.tup [.int (c p),.int (c o)])) g (.dT (cC kvs (k2 (c p) (c o)) (.int (z+e))))):=by
     intro e he
     refine⟨(sH1.trans s2).put hg,_,ah,by have:=cP kvs (k2 (c p) (c o)) (.int (z+e));omega,fun x y=>?_,fun u hu v hv=>?_,fun p' hp' v hv=>?_⟩
     ·rw[fz]
      have hxy:=hv1 x y
      rw[hp]at hxy ⊢
      simp only at hxy ⊢
      rw[tkj,yt]
      by_cases hk:k2 x y=k2 (c p) (c o)
      ·rw[if_pos hk]
       obtain⟨rfl,rfl⟩:=k2_inj.mp hk
       refine .inl ?_
       rw[if_pos rfl,if_pos rfl,hzz,he]
       congr 2
       omega
      ·rw[if_neg hk]
       have hn:¬(x=c p∧y=c o):=fun z=>hk (k2_inj.mpr z)
       by_cases hx:c p=x
       ·have hy:¬ c o=y:=fun z=>hn ⟨hx.symm,z.symm⟩
        rw[if_pos hx]at hxy ⊢
        rw[if_neg hy]
        simpa using hxy
       ·rw[if_neg hx]at hxy ⊢
        exact hxy
     ·rw[fz]
      split
      ·rfl
      ·exact hold1 u hu v hv
     ·rw[fz]
      rw[hp]at hp'
      cases hp'
      split
      ·rfl
      ·rename_i hne
       rw[tkj]at hv
       rcases mem_append.mp hv with hv|hv
       ·exact hnew1 p hp v hv
       ·have:v=o:=by simpa using hv
        subst this
        exact absurd rfl hne
    have ln1:kvs.length<sizeLine:=aC (by have:=O.len;omega)
    refine⟨_,rfl,_,rfl,_,rfl,a,_,_,_,rfl,rfl,SqL.of ((sH1.trans s2) _ _ N.lst),hnx,nx,ro,rfl,hro,_,rfl,?_⟩
    rw[hso]
    refine aK (fun hc=>?_) (fun hc=>?_)
    ·exact⟨_,_,rfl,rfl,_,rfl,_,rfl,g,_,rfl,DPut.t hg2 kt ln1,_,_,rfl,stepJ 1 (by rw[if_pos hc])⟩
    ·exact⟨_,rfl,_,_,rfl,rfl,_,rfl,_,rfl,g,_,rfl,DPut.t hg2 kt ln1,_,_,rfl,stepJ (-1) (by rw[if_neg hc])⟩
   ·rintro σ H1 ⟨w5,w6,rfl,sH1,kvs,hg1,hl1,hv1,hold1,hnew1⟩
    rw[lenL]at hl1 hv1 hnew1
    rw[take_length]at hv1 hnew1
    have hP1:=hP.mono sH1
    have gp:=hP1.get (O.sub p hpL)
    refine⟨_,rfl,_,rfl,_,rfl,b,_,rfl,gp,_,rfl,_,rfl,b,_,rfl,gp,by show 2≤sizeLine;decide,fun t ht=>?_⟩
    have s2:Same H1 (upd H1 t (.tup [.int (c p),.int (c p)])):=Same.new ht
    have hg2:=s2 _ _ hg1
    have kt:(upd H1 t (.tup [.int (c p),.int (c p)])) t=some (.tup ((k2 (c p) (c p)).map kV)):=ah
    have hsome:=hnew1 p hp p hpL
    have hval:=hv1 (c p) (c p)
    rw[hp]at hval
    simp only[if_true]at hval
    have hv2:bj kvs (k2 (c p) (c p))=some (.int (pre (aI nb) c L (L.take i) (c p) (c p)+GS.inn (aI nb) c L p (c p))):=by
     rcases hval with e|⟨e,_⟩
     ·exact e
     ·rw[e]at hsome;cases hsome
    have dg:=DGet.t hg2 kt
    rw[hv2]at dg
    have tki:L.take (i+1)=L.take i++[p]:=a6 hp
    refine⟨g,_,rfl,dg,_,_,rfl,rfl,_,DPut.t hg2 kt (aC (by have:=O.len;omega)),_,_,_,rfl,(sH1.trans s2).put hg,_,ah,?_,fun x y=>?_,fun u hu v hv=>?_,fun p' hp' v hv=>by simp at hv⟩
    ·have:=cP kvs (k2 (c p) (c p)) (.int (pre (aI nb) c L (L.take i) (c p) (c p)+GS.inn (aI nb) c L p (c p)+1))
     have:=O.len
     omega
    ·have z0:(match L[i+1]? with|some p=>if c p=x then GS.inn (aI nb) c (L.take 0) p y else 0|none=>0)=0:=by
      cases L[i+1]? with
      |none=>rfl
      |some q=>
       show(if c q=x then GS.inn (aI nb) c [] q y else 0)=0
       split<;>rfl
     rw[z0,Int.add_zero,fz,tki,yH]
     have hxy:=hv1 x y
     rw[hp]at hxy
     simp only at hxy
     unfold gsum
     by_cases hk:k2 x y=k2 (c p) (c p)
     ·rw[if_pos hk]
      obtain⟨rfl,rfl⟩:=k2_inj.mp hk
      refine .inl ?_
      rw[if_pos rfl,if_pos rfl]
      congr 2
      omega
     ·rw[if_neg hk]
      have hn:¬(x=c p∧y=c p):=fun z=>hk (k2_inj.mpr z)
      by_cases hx:c p=x
      ·have hy:¬ x=y:=fun z=>hn ⟨hx.symm,by rw[← z,hx]⟩
       rw[if_pos hx]at hxy ⊢
       rw[if_neg hy,Int.add_zero]
       exact hxy
      ·rw[if_neg hx]at hxy ⊢
       exact hxy
    ·rw[fz]
     split
     ·rfl
     ·rw[tki]at hu
      rcases mem_append.mp hu with hu|hu
      ·exact hold1 u hu v hv
      ·have:u=p:=by simpa using hu
       subst this
       exact hnew1 u hp v hv
  ·rintro σ H' ⟨v4,v5,v6,rfl,sH,kvs,hg1,hl1,hv1,hold1,hnew1⟩
   rw[lenL]at hl1 hv1 hold1
   rw[take_length]at hv1 hold1
   refine⟨_,rfl,k H' g sH hg ⟨kvs,hg1,fun u hu v hv=>?_⟩⟩
   have:=hv1 (c u) (c v)
   rw[List.getElem?_eq_none (le_refl _),yZ]at this
   simp only[Int.add_zero]at this
   rcases this with e|⟨e,_⟩
   ·exact e
   ·have h:=hold1 u hu v hv
    rw[e]at h
    cases h
end
noncomputable abbrev lkN(nb:List (List Nat))(c:Nat→Int)(L:List Nat):Nat→Nat→Bool:=GS.lk (aI nb) c (GS.mj (aI nb) c L)
section
theorem SurAt.mono{H H':Hp}{s:Addr}{adj:Nat→Nat→Bool}{c:Nat→Int}{L:List Nat}(h:SurAt H s adj c L)(sm:Same H H'):SurAt H' s adj c L:=let⟨kvs,a,b⟩:=h;⟨kvs,sm _ _ a,b⟩
theorem eD(L:List Nat)(q:Nat→Bool):((List.range L.length).filter fun i=>q (L.getD i 0)).map (fun i=>V.int ((L.getD i 0:Nat):Int))=nums (L.filter q):=by
 unfold nums
 rw[← jH L q 0,map_map]
 rfl
abbrev qh:Stmt:=top 24
theorem scLinked:ax ["near","parting","surplus","points","point","part","around","other"] ["near","parting","surplus","points","point"] (ak qh):=fsc
def rN:Sp:=fun vs H Q _=>∃(a b g d:Addr) (nb:List (List Nat)) (as:List Addr) (PL L:List Nat) (c:Nat→Int) (p:Nat),vs=[.ref a,.ref b,.ref g,.ref d,.int (p:Nat)]∧NearAt H a nb as∧PartAt H b PL c∧SurAt H g (aI nb) c L∧aJ H d L∧PtsOk nb PL L∧p∈L∧
 ∀ H' q,Same H H'→H q=none→aJ H' q (L.filter (lkN nb c L p))→Q (.ref q) H'
theorem wa{f:Addr}{fd:FuncData}(F:Fun K "linked_with" "linked_with" qh f fd):FnOk P w K mg base CX0 1 f fd ["near","parting","surplus","points","point"] rN:=by
 refine F.ok scLinked (fun vs H Q E h=>?_) (fun cdv Ar outer s H vs Q E hr h=>?_)
 ·obtain⟨a,b,g,d,nb,as,PL,L,c,p,rfl,_⟩:=h
  rfl
 ·obtain⟨a,b,g,d,nb,as,PL,L,c,p,rfl,N,hP,hS,hL,O,hp,k⟩:=h
  have nd:=scLinked.nd
  have hu:=cf hr
  refine⟨_,af (ay (i:=5) nd rfl (Or.inr rfl) (a4 hu (pv 1) (pv 4) (fun _ _=>rfl))) (af (ay (i:=6) nd rfl (Or.inr rfl) (aF (K:=K) rfl (pv 0) (pv 4)))
   (aj (au (bL rfl nd (aY (pv 3)) (aM (own:=[("other",7)]) (show bX ["near","parting","surplus","points","point","part","around","other"] (ak qh) _ _=true by decide +kernel)) (fun _ _ _ _ _=>aA (i:=7) nd rfl (Or.inl rfl))
    (fun _ _ _ _ _=>eM (aH rD (AA (o6 hu (pv 7) (pv 6))) (cD oe (a4 hu (pv 2) (pZ (ae (pv 5) (ae (a4 hu (pv 1) (pv 7) (fun _ _=>rfl)) ai))) (fun _ _=>rfl)) az (nomark _)) (nomark _))) (fun _ _ _ _ _=>pv 7))))),?_⟩
  obtain⟨nx,hnx,hin⟩:=lK N (O.lt p hp)
  refine⟨_,rfl,_,rfl,b,_,rfl,hP.get (O.sub p hp),_,rfl,_,rfl,a,_,_,_,rfl,rfl,SqL.of N.lst,hnx,_,rfl,d,rfl,⟨_,SqL.of hL⟩,fun D hD=>?_⟩
  obtain⟨kvs,hg,hsur⟩:=hS
  refine fi hD (aN (SqL.of hL)) (Same.refl _) (fun i=>lkN nb c L p (L.getD i 0)) (fun i=>V.int ((L.getD i 0:Nat):Int)) (by rw[length_map];have:=O.len;omega) ?_ ?_
  ·intro i x H' C Nx hi sH hx yes no
   obtain⟨o,ho,hoL,rfl⟩:=bc hx
   have eo:L.getD i 0=o:=by rw[getD_eq_getElem?_getD,ho];rfl
   rw[eo]at yes no
   obtain⟨nx',hnx',hin'⟩:=lK (N.mono sH) (O.lt p hp)
   have enx:nx=nx':=by
    rw[hnx]at hnx'
    cases hnx'
    rfl
   subst enx
   obtain⟨ro,hro,hso⟩:=hin' o
   refine⟨rfl,_,rfl,_,rfl,nx,ro,rfl,hro,_,rfl,_,rfl,_,rfl,_,rfl,b,_,rfl,(hP.mono sH).get (O.sub o hoL),by show 2≤sizeLine;decide,fun t ht=>?_⟩
   have s2:Same H' (upd H' t (.tup [.int (c p),.int (c o)])):=Same.new ht
   have kt:(upd H' t (.tup [.int (c p),.int (c o)])) t=some (.tup ((k2 (c p) (c o)).map kV)):=ah
   have dg:=DGet.t (s2 _ _ (sH _ _ hg)) kt
   rw[hsur p hp o hoL]at dg
   refine⟨g,_,rfl,dg,_,_,rfl,rfl,rfl,_,rfl,?_⟩
   have el:(!decide (V.bl ro.isSome=V.bl (decide (0<GS.sur (aI nb) c L (c p) (c o)))))=lkN nb c L p o:=by
    rw[hso]
    unfold lkN GS.lk GS.mj
    cases aI nb p o<;>cases decide (0<GS.sur (aI nb) c L (c p) (c o))<;>simp
   rw[el]
   refine aK (fun hc=>?_) (fun hc=>?_)
   ·exact⟨_,rfl,yes hc _ s2⟩
   ·exact no (by simpa using hc) _ s2
  ·intro H' sH hA
   refine k H' D sH hD ?_
   rw[length_map,eD L (lkN nb c L p)]at hA
   exact hA
abbrev k5:Stmt:=top 25
theorem scPieceOf:ax ["near","parting","surplus","points","start","found","waiting","linked","other","point"] ["near","parting","surplus","points","start"] (ak k5):=fsc
def nP:Sp:=fun vs H Q _=>∃(a b g d:Addr) (nb:List (List Nat)) (as:List Addr) (PL L:List Nat) (c:Nat→Int) (p:Nat),vs=[.ref a,.ref b,.ref g,.ref d,.int (p:Nat)]∧NearAt H a nb as∧PartAt H b PL c∧SurAt H g (aI nb) c L∧aJ H d L∧PtsOk nb PL L∧p∈L∧
 ∀ H' q,Same H H'→H q=none→aJ H' q (GS.pc (lkN nb c L) L p)→Q (.ref q) H'
theorem tH{f:Addr}{fd:FuncData}(F:Fun K "piece_of" "piece_of" k5 f fd)(T:Txt K mg){f1:Addr}{fd1:FuncData}(C1:Cal P w K mg base 1 "linked_with" ["near","parting","surplus","points","point"] rN f1 fd1):FnOk P w K mg base CX0 2 f fd ["near","parting","surplus","points","start"] nP:=by
 refine F.ok scPieceOf (fun vs H Q E h=>?_) (fun cdv Ar outer s H vs Q E hr h=>?_)
 ·obtain⟨a,b,g,d,nb,as,PL,L,c,p,rfl,_⟩:=h
  rfl
 ·obtain⟨a,b,g,d,nb,as,PL,L,c,p,rfl,N,hP,hS,hL,O,hp,k⟩:=h
  have nd:=scPieceOf.nd
  have hu:=cf hr
  refine⟨_,af (ay (i:=5) nd rfl (Or.inr rfl) (kG (ik (pv 4) nF kl) rfl rfl (by decide) (by decide))) (af (ay (i:=6) nd rfl (Or.inl rfl) (aP (ae (pv 4) ai)))
   (af (dR PassesOwn.never (aH oe (aS (K:=K) rfl T.len (pv 6)) az (nomark _))
    (af (ay (i:=7) nd rfl (Or.inl rfl) (aq C1 hr (ae (pv 0) (ae (pv 1) (ae (pv 2) (ae (pv 3) (ae (xa PySem.F.plainAttrs_list PySem.F.slot_list_pop PySem.F.type_list_pop xc (pv 6)) ai)))))))
    (aj (bC PassesOwn.never rfl (aY (pv 7)) (aA (i:=8) nd rfl (Or.inl rfl))
     (aj (aQ (cI (cG hu (pv 8) (pv 5))) (af (cA hu (pv 5) (pv 8) nF rfl) (aj (cj (i0 PySem.F.plainAttrs_list PySem.F.slot_list_append PySem.F.type_list_append cw (pv 6) (ae (pv 8) ai))))) aG))))))
   (aj (au (bL rfl nd (aY (pv 3)) (aM (own:=[("point",9)]) (show bX ["near","parting","surplus","points","start","found","waiting","linked","other","point"] (ak k5) _ _=true by decide +kernel)) (fun _ _ _ _ _=>aA (i:=9) nd rfl (Or.inl rfl)) (fun _ _ _ _ _=>eM (cI (o6 hu (pv 9) (pv 5)))) (fun _ _ _ _ _=>pv 9)))))),?_⟩
  intro g1 hg1
  refine⟨_,rfl,ah,[(Sum.inl ((p:Nat):Int),V.bl true)],rfl,by show 1≤15;decide,?_⟩
  rw[iD]
  have s1:Same H (upd H g1 (bB [p])):=Same.new hg1
  refine⟨_,rfl,by show 1≤sizeLine;decide,fun w1 hw1=>?_⟩
  have nw:H w1=none:=s1.free hw1
  have gw:g1≠w1:=fun z=>by rw[← z]at hw1;rw[show(upd H g1 (HO.dK (cZ [] [(Sum.inl ((p:Nat):Int),V.bl true)]))) g1=some _ from ah]at hw1;cases hw1
  have lkd:GS.Con (lkN nb c L) L p p:= .refl p
  let J:List Nat→List Nat→Hp→Prop:=fun ks ws H'=>Same H H'∧H' g1=some (bB ks)∧aJ H' w1 ws∧ks.Nodup∧(∀ x∈ks,x∈L∧GS.Con (lkN nb c L) L p x)∧p∈ks∧∀ x∈ws,x∈ks
  let Cl:List Nat→Nat→Prop:=fun ks x=>∀ o∈L,lkN nb c L x o=true→o∈ks
  have lenk:∀ ks:List Nat,ks.Nodup→(∀ x∈ks,x∈L∧GS.Con (lkN nb c L) L p x)→ks.length≤L.length:=fun ks h1 h2=>GS.aW h1 fun x hx=>(h2 x hx).1
  refine⟨fun m σ H'=>∃(ks ws:List Nat) (v7 v8:Option V),σ=[some (.ref a),some (.ref b),some (.ref g),some (.ref d),some (.int (p:Nat)),some (.ref g1),some (.ref w1),v7,v8,none]∧J ks ws H'∧(∀ x∈ks,x∉ws→Cl ks x)∧m=2*(L.length - ks.length)+ws.length∧2*(L.length - ks.length)+ws.length≤40,
   ⟨_,[p],[p],none,none,rfl,⟨s1.put nw,by rw[ao gw];exact ah,ah,by simp,fun x hx=>by have:x=p:=(by simpa using hx);subst this;exact⟨hp,lkd⟩,by simp,fun x hx=>hx⟩,fun x hx hn=>absurd hx hn,rfl,by have:=O.len;simp;omega⟩,?_⟩
  rintro m σ H' ⟨ks,ws,v7,v8,rfl,⟨sH,hG,hW,nk,ck,pk,wk⟩,cl,rfl,m40⟩
  refine⟨_,rfl,w1,_,rfl,.inl (SqL.of hW),_,_,rfl,rfl,_,rfl,?_⟩
  refine aK (fun hc=>?_) (fun hc=>?_)
  ·have hne:ws≠[]:=fun z=>by rw[z]at hc;simp at hc
   have hlen:0<ws.length:=length_pos_iff.mpr hne
   let x:=ws.getLast hne
   have hxw:x∈ws:=List.getLast_mem hne
   have hx:=ck x (wk x hxw)
   have ews:ws=ws.dropLast++[x]:=(List.dropLast_concat_getLast hne).symm
   have hlast:(nums ws)[(nums ws).length - 1]?=some (V.int ((x:Nat):Int)):=by
    rw[length_map,List.getElem?_map,List.getElem?_eq_getElem (by omega)]
    show some (V.int _)=_
    congr 3
    exact(List.getLast_eq_getElem hne).symm
   let N1:L2.St→Hp→Prop:=fun σ' H'=>∃(ks' ws':List Nat) (v7 v8:Option V),σ'=[some (.ref a),some (.ref b),some (.ref g),some (.ref d),some (.int (p:Nat)),some (.ref g1),some (.ref w1),v7,v8,none]∧J ks' ws' H'∧(∀ x∈ks',x∉ws'→Cl ks' x)∧2*(L.length - ks'.length)+ws'.length<2*(L.length - ks.length)+ws.length
   refine⟨N1,fun σ' H2 ⟨ks',ws',u7,u8,e,j1,j2,j3⟩=>⟨_,j3,ks',ws',u7,u8,e,j1,j2,rfl,by omega⟩,?_⟩
   have dl:(nums ws).dropLast=nums ws.dropLast:=by simp[nums,List.map_dropLast]
   have sH2:Same H (upd H' w1 (.lst (nums ws).dropLast)):=sH.put nw
   refine⟨_,rfl,_,rfl,_,rfl,_,rfl,_,rfl,.inl ⟨rfl,_,SqL.of hW⟩,w1,_,_,rfl,rfl,hW,hlast,?_⟩
   refine⟨a,b,g,d,nb,as,PL,L,c,x,rfl,N.mono sH2,hP.mono sH2,hS.mono sH2,sH2 _ _ hL,O,hx.1,fun H3 l3 s3 hl3 h3=>?_⟩
   have sH3:=sH2.trans s3
   have hG3:H3 g1=some (bB ks):=s3 _ _ (by rw[ao gw];exact hG)
   have hW3:aJ H3 w1 ws.dropLast:=s3 _ _ (by rw[ah,dl])
   have lg:l3≠g1:=fun z=>by rw[z,ao gw,hG]at hl3;cases hl3
   have lw:l3≠w1:=fun z=>by rw[z,ah]at hl3;cases hl3
   refine⟨_,rfl,l3,rfl,⟨_,SqL.of h3⟩,?_⟩
   refine kW (K:=K) (a:=l3) (xs:=nums (L.filter (lkN nb c L x))) (fun i σ H'=>∃(ks' ws':List Nat) (v8:Option V),σ=[some (.ref a),some (.ref b),some (.ref g),some (.ref d),some (.int (p:Nat)),some (.ref g1),some (.ref w1),some (.ref l3),v8,none]∧aJ H' l3 (L.filter (lkN nb c L x))∧J ks' ws' H'∧(∀ y∈ks,y∈ks')∧
    (∀ y∈ks',y∉ws'→y≠x→Cl ks' y)∧(∀ y∈(L.filter (lkN nb c L x)).take i,y∈ks')∧2*(L.length - ks'.length)+ws'.length<2*(L.length - ks.length)+ws.length)
    ⟨ks,ws.dropLast,_,rfl,h3,⟨sH3,hG3,hW3,nk,ck,pk,fun y hy=>wk y (List.dropLast_subset ws hy)⟩,fun y hy=>hy,fun y hy hn hne'=>cl y hy fun z=>?_,fun y hy=>by simp at hy,by rw[List.length_dropLast];omega⟩ (fun i σ H' _ ⟨_,_,_,_,h,_⟩=>SqL.of h) ?_ ?_
   ·rw[ews]at z
    rcases mem_append.mp z with z|z
    ·exact hn z
    ·exact hne' (by simpa using z)
   ·rintro i y σ H4 hy ⟨ks',ws',u8,rfl,h4,⟨sH4,hG4,hW4,nk4,ck4,pk4,wk4⟩,sub4,cl4,done4,m4⟩
    obtain⟨o,ho,hoF,rfl⟩:=bc hy
    have hoL:=(mem_filter.mp hoF).1
    have hol:=(mem_filter.mp hoF).2
    refine⟨_,rfl,_,rfl,g1,_,rfl,DGet.k (k:=Sum.inl ((o:Nat):Int)) hG4,_,rfl,?_⟩
    rw[cg]
    have tk:=a6 ho
    refine aK (fun hc4=>?_) (fun hc4=>?_)
    ·have hno:o∉ks':=by simpa using hc4
     have nk5:(ks'++[o]).Nodup:=pN nk4 hno
     have ck5:∀ z∈ks'++[o],z∈L∧GS.Con (lkN nb c L) L p z:=fun z hz=>by
      rcases mem_append.mp hz with hz|hz
      ·exact ck4 z hz
      ·have:z=o:=by simpa using hz
       subst this
       exact⟨hoL,hx.2.step hoL hol⟩
     have l5:=lenk _ nk5 ck5
     rw[length_append,length_singleton]at l5
     have g4n:∀(u:Addr) (l:List V),H4 u=some (.lst l)→u≠g1:=fun u l e=>dY e hG4 (fun z=>nomatch z)
     refine⟨_,rfl,_,rfl,g1,_,rfl,DPut.k (k:=Sum.inl ((o:Nat):Int)) hG4 (by rw[aT];have:=O.len;exact aC (by omega)),?_⟩
     rw[cT (f:=fun _=>V.bl true) hno]
     have hW5:(upd H4 g1 (bB (ks'++[o]))) w1=some (.lst (nums ws')):=by rw[ao gw.symm];exact hW4
     refine⟨_,rfl,.inl ⟨rfl,_,SqL.of hW5⟩,_,rfl,w1,_,_,rfl,rfl,hW5,by rw[length_map];exact aC (by omega),ks'++[o],ws'++[o],_,rfl,?_,⟨(sH4.put hg1).put nw,?_,?_,nk5,ck5,mem_append_left _ pk4,?_⟩,fun z hz=>mem_append_left _ (sub4 z hz),?_,?_,?_⟩
     ·show upd (upd H4 g1 _) w1 _ l3=_
      rw[ao lw,ao lg]
      exact h4
     ·rw[ao gw,ah]
     ·show upd (upd H4 g1 _) w1 _ w1=_
      rw[ah]
      simp[nums]
     ·intro z hz
      rcases mem_append.mp hz with hz|hz
      ·exact mem_append_left _ (wk4 z hz)
      ·exact mem_append_right _ hz
     ·intro z hz hzn hzx q hqL hql
      have hzo:z∈ks':=by
       rcases mem_append.mp hz with hz|hz
       ·exact hz
       ·exact absurd (mem_append_right _ hz) hzn
      exact mem_append_left _ (cl4 z hzo (fun w=>hzn (mem_append_left _ w)) hzx q hqL hql)
     ·intro z hz
      rw[tk]at hz
      rcases mem_append.mp hz with hz|hz
      ·exact mem_append_left _ (done4 z hz)
      ·exact mem_append_right _ hz
     ·rw[length_append,length_append,length_singleton]
      omega
    ·have hin:o∈ks':=by simpa using hc4
     refine⟨ks',ws',_,rfl,h4,⟨sH4,hG4,hW4,nk4,ck4,pk4,wk4⟩,sub4,cl4,fun z hz=>?_,m4⟩
     rw[tk]at hz
     rcases mem_append.mp hz with hz|hz
     ·exact done4 z hz
     ·have:z=o:=by simpa using hz
      rw[this]
      exact hin
   ·rintro σ H4 ⟨ks',ws',u8,rfl,h4,j4,sub4,cl4,done4,m4⟩
    rw[length_map,take_length]at done4
    refine⟨ks',ws',_,_,rfl,j4,fun y hy hn=>?_,m4⟩
    by_cases e:y=x
    ·rw[e]
     exact fun o hoL hol=>done4 o (mem_filter.mpr ⟨hoL,hol⟩)
    ·exact cl4 y hy hn e
  ·have hws:ws=[]:=by
    have:¬(0:Int)<((nums ws).length:Nat):=by simpa using hc
    rw[length_map]at this
    exact length_eq_zero_iff.mp (by omega)
   subst hws
   have all:∀ y,y∈ks↔y∈L∧GS.Con (lkN nb c L) L p y:=fun y=>by
    refine⟨ck y,fun⟨_,hcon⟩=>?_⟩
    induction hcon with
    |refl=>exact pk
    |step h0 hr hl ih=>exact cl _ (ih ⟨h0.mem hp,h0⟩ (h0.mem hp)) (by simp) _ hr hl
   have hL':=sH _ _ hL
   refine⟨_,rfl,d,rfl,⟨_,SqL.of hL'⟩,fun D hD=>?_⟩
   refine fi hD (aN (SqL.of hL')) (Same.refl _) (fun i=>decide (L.getD i 0∈ks)) (fun i=>V.int ((L.getD i 0:Nat):Int)) (by rw[length_map];have:=O.len;omega) ?_ ?_
   ·intro i x H5 C Nx hi s5 hx yes no
    obtain⟨o,ho,hoL,rfl⟩:=bc hx
    have eo:L.getD i 0=o:=by rw[getD_eq_getElem?_getD,ho];rfl
    rw[eo]at yes no
    refine⟨rfl,_,rfl,_,rfl,g1,_,rfl,DGet.k (k:=Sum.inl ((o:Nat):Int)) (s5 _ _ hG),_,rfl,?_⟩
    rw[cg]
    refine aK (fun hc=>?_) (fun hc=>?_)
    ·exact⟨_,rfl,yes hc H5 (Same.refl _)⟩
    ·exact no (by simpa using hc) H5 (Same.refl _)
   ·intro H5 s5 hA
    refine k H5 D (sH.trans s5) (sH.free hD) ?_
    rw[length_map,eD L (fun x=>decide (x∈ks))]at hA
    have e:L.filter (fun x=>decide (x∈ks))=GS.pc (lkN nb c L) L p:=by
     unfold GS.pc
     refine filter_congr fun y hy=>?_
     have:=all y
     by_cases z:y∈ks
     ·simp[z,(this.mp z).2]
     ·have:¬ GS.Con (lkN nb c L) L p y:=fun h=>z (this.mpr ⟨hy,h⟩)
      simp[z,this]
    rw[e]at hA
    exact hA
structure PcsAt(H:Hp)(a:Addr)(L:List Nat)(pf:Nat→List Nat)(ks:List Nat)(ad:Nat→Addr):Prop where
 dct:H a=some (.dK (dct ks fun p=>V.ref (ad p)))
 nd:ks.Nodup
 mem:∀ p,p∈ks↔p∈L
 row:∀ p∈L,aJ H (ad p) (pf p)
theorem PcsAt.mono{H H':Hp}{a:Addr}{L:List Nat}{pf:Nat→List Nat}{ks:List Nat}{ad:Nat→Addr}(h:PcsAt H a L pf ks ad)(s:Same H H'):PcsAt H' a L pf ks ad:=⟨s _ _ h.dct,h.nd,h.mem,fun p hp=>s _ _ (h.row p hp)⟩
theorem PcsAt.get{H:Hp}{a:Addr}{L:List Nat}{pf:Nat→List Nat}{ks:List Nat}{ad:Nat→Addr}(h:PcsAt H a L pf ks ad){p:Nat}(hp:p∈L):DGet H a (V.int ((p:Nat):Int)) (some (V.ref (ad p))):=by
 have:=DGet.k (k:=Sum.inl ((p:Nat):Int)) h.dct
 rw[bQ,if_pos ((h.mem p).mpr hp)]at this
 exact this
abbrev nX:Stmt:=top 26
theorem scPiecesOf:ax ["near","parting","points","surplus","found","start","piece","point"] ["near","parting","points"] (ak nX):=fsc
def kM:Sp:=fun vs H Q _=>∃(a b d:Addr) (nb:List (List Nat)) (as:List Addr) (PL L:List Nat) (c:Nat→Int),vs=[.ref a,.ref b,.ref d]∧NearAt H a nb as∧PartAt H b PL c∧aJ H d L∧PtsOk nb PL L∧(∀ p q,aI nb p q=aI nb q p)∧
 ∀ H' q ks ad,Same H H'→H q=none→(∀ p∈L,H (ad p)=none)→PcsAt H' q L (GS.pc (lkN nb c L) L) ks ad→Q (.ref q) H'
theorem sx{f:Addr}{fd:FuncData}(F:Fun K "pieces_of" "pieces_of" nX f fd)(T:Txt K mg){f1:Addr}{fd1:FuncData}(C1:Cal P w K mg base 1 "surpluses" ["near","parting","points"] jP f1 fd1){f2:Addr}{fd2:FuncData}(C2:Cal P w K mg base 2 "piece_of" ["near","parting","surplus","points","start"] nP f2 fd2):
  FnOk P w K mg base CX0 3 f fd ["near","parting","points"] kM:=by
 refine F.ok scPiecesOf (fun vs H Q E h=>?_) (fun cdv Ar outer s H vs Q E hr h=>?_)
 ·obtain⟨a,b,d,nb,as,PL,L,c,rfl,_⟩:=h
  rfl
 ·obtain⟨a,b,d,nb,as,PL,L,c,rfl,N,hP,hL,O,sy,k⟩:=h
  have nd:=scPiecesOf.nd
  have hu:=cf hr
  have hr1:Room 1 _:=hr.mono (by decide)
  refine⟨_,af (ay (i:=3) nd rfl (Or.inl rfl) (aq C1 hr1 (ae (pv 0) (ae (pv 1) (ae (pv 2) ai))))) (af (ay (i:=4) nd rfl (Or.inl rfl) df)
   (af (bC PassesOwn.never rfl (aY (pv 2)) (aA (i:=5) nd rfl (Or.inl rfl))
    (aj (aQ (cI (cG hu (pv 5) (pv 4)))
     (af (ay (i:=6) nd rfl (Or.inl rfl) (aq C2 hr (ae (pv 0) (ae (pv 1) (ae (pv 3) (ae (pv 2) (ae (pv 5) ai)))))))
     (aj (bC PassesOwn.never rfl (aY (pv 6)) (aA (i:=7) nd rfl (Or.inl rfl)) (aj (cA hu (pv 4) (pv 7) (pv 6) rfl))))) aG)))
   (aj (au (pv 4))))),?_⟩
  refine⟨_,rfl,_,rfl,_,rfl,a,b,d,nb,as,PL,L,c,rfl,N,hP,hL,O,fun H1 g s1 hg hS=>?_⟩
  intro fd1' hfd
  have nfd:H fd1'=none:=s1.free hfd
  have s2:Same H1 (upd H1 fd1' (.dK [])):=Same.new hfd
  have ls:=GS.gc (c:=c) sy (GS.jw (c:=c) sy L)
  have nL:=GS.bJ O.up
  refine⟨_,rfl,d,rfl,⟨_,SqL.of (s2 _ _ (s1 _ _ hL))⟩,bN (aN (K:=K) (SqL.of (s1 _ _ hL))) (fun i σ H'=>∃(v5 v6 v7:Option V) (ks:List Nat) (ad:Nat→Addr),σ=[some (.ref a),some (.ref b),some (.ref d),some (.ref g),some (.ref fd1'),v5,v6,v7]∧Same H1 H'∧H' fd1'=some (.dK (dct ks fun p=>V.ref (ad p)))∧ks.Nodup∧(∀ p∈ks,p∈L∧aJ H' (ad p) (GS.pc (lkN nb c L) L p)∧H (ad p)=none∧∀ q∈L,GS.Con (lkN nb c L) L p q→q∈ks)∧∀ p∈L.take i,p∈ks)
   ⟨none,none,none,[],fun _=>0,rfl,s2,ah,nodup_nil,fun p hp=>by simp at hp,fun p hp=>by simp at hp⟩ (fun i σ H' ⟨_,_,_,_,_,_,s,_⟩=>s) calm_list.mono ?_ ?_⟩
  ·rintro i x σ H' hi ⟨v5,v6,v7,ks,ad,rfl,sH,hF,nk,ck,dk⟩ hx
   obtain⟨p,hp,hpL,rfl⟩:=bc hx
   have tk:=a6 hp
   refine⟨_,rfl,_,rfl,fd1',_,rfl,DGet.k (k:=Sum.inl ((p:Nat):Int)) hF,_,rfl,?_⟩
   rw[cg]
   refine aK (fun hc=>?_) (fun hc=>?_)
   ·have hno:p∉ks:=by simpa using hc
    have sH1:=s1.trans sH
    refine⟨_,rfl,_,rfl,_,rfl,_,rfl,_,rfl,a,b,g,d,nb,as,PL,L,c,p,rfl,N.mono sH1,hP.mono sH1,hS.mono sH,sH1 _ _ hL,O,hpL,fun H2 q2 s3 hq2 h2=>?_⟩
    have qf:q2≠fd1':=fun z=>by rw[z,hF]at hq2;cases hq2
    have offp:∀ y∈GS.pc (lkN nb c L) L p,y∉ks:=fun y hy hyk=>hno ((ck y hyk).2.2.2 p hpL ((GS.mem_pc.mp hy).2.symm ls hpL))
    refine⟨_,rfl,q2,rfl,⟨_,SqL.of h2⟩,?_⟩
    let ad':Nat→Addr:=fun y=>if y∈GS.pc (lkN nb c L) L p then q2 else ad y
    have adk:∀ y∈ks,ad' y=ad y:=fun y hy=>if_neg fun z=>offp y z hy
    have adp:∀ y∈GS.pc (lkN nb c L) L p,ad' y=q2:=fun y hy=>if_pos hy
    have np:(GS.pc (lkN nb c L) L p).Nodup:=GS.bH nL
    refine kW (K:=K) (a:=q2) (xs:=nums (GS.pc (lkN nb c L) L p)) (fun j σ H'=>∃ v7:Option V,σ=[some (.ref a),some (.ref b),some (.ref d),some (.ref g),some (.ref fd1'),some (.int ((p:Nat):Int)),some (.ref q2),v7]∧But fd1' H2 H'∧H' fd1'=some (.dK (dct (ks++(GS.pc (lkN nb c L) L p).take j) fun p=>V.ref (ad' p))))
     ⟨v7,rfl,fun b o _ e=>e,?_⟩ (fun j σ H' _ ⟨_,_,bt,_⟩=>SqL.of (bt _ _ qf h2)) ?_ ?_
    ·rw[s3 _ _ hF,List.take_zero,append_nil]
     congr 2
     exact dX fun y hy=>by rw[adk y hy]
    ·rintro j y σ H3 hy ⟨u7,rfl,bt,hF3⟩
     obtain⟨o,ho,hoP,rfl⟩:=bc hy
     have hon:o∉ks++(GS.pc (lkN nb c L) L p).take j:=fun z=>by
      rcases mem_append.mp z with z|z
      ·exact offp o hoP z
      ·obtain⟨j',hj',e⟩:=mem_take_iff_getElem.mp z
       have:=vg np (i:=j') (j:=j) (by rw[List.getElem?_eq_getElem (by omega),e]) ho
       omega
     refine⟨_,rfl,_,rfl,_,rfl,fd1',_,rfl,DPut.k (k:=Sum.inl ((o:Nat):Int)) hF3 ?_,_,rfl,fun b o hb e=>by rw[ao hb];exact bt b o hb e,?_⟩
     ·rw[aT,length_append]
      have h1:=GS.aW nk fun z hz=>(ck z hz).1
      have h2:((GS.pc (lkN nb c L) L p).take j).length≤L.length:=by
       rw[length_take]
       have:=GS.aW np fun z hz=>GS.bg hz
       omega
      have:=O.len
      exact aC (by omega)
     ·have e:=cT (f:=fun p=>V.ref (ad' p)) hon
      rw[show(V.ref q2:V)=(fun p=>V.ref (ad' p)) o by show V.ref q2=V.ref (ad' o);rw[adp o hoP],ah,e,append_assoc,← a6 ho]
    ·rintro σ H3 ⟨u7,rfl,bt,hF3⟩
     rw[length_map,take_length]at hF3
     have rowk:∀(u:Addr) (l:List Nat),aJ H2 u l→aJ H3 u l:=fun u l e=>bt _ _ (dY e (s3 _ _ hF) (fun z=>nomatch z)) e
     refine⟨_,_,_,ks++GS.pc (lkN nb c L) L p,ad',rfl,fun u o e=>?_,hF3,nodup_append.mpr ⟨nk,np,fun y hy z hz e=>offp z hz (e▸hy)⟩,fun y hy=>?_,fun y hy=>?_⟩
     ·exact bt _ _ (fun z=>by rw[z,hfd]at e;cases e) (s3 _ _ (sH _ _ e))
     ·rcases mem_append.mp hy with hy|hy
      ·obtain⟨c1,c2,c3,c4⟩:=ck y hy
       rw[adk y hy]
       exact⟨c1,rowk _ _ (s3 _ _ c2),c3,fun q hq hcon=>mem_append_left _ (c4 q hq hcon)⟩
      ·obtain⟨y1,y2⟩:=GS.mem_pc.mp hy
       rw[adp y hy,GS.fV ls hpL y2]
       refine⟨y1,rowk _ _ h2,(s1.trans sH).free hq2,fun q hq hcon=>mem_append_right _ (GS.mem_pc.mpr ⟨hq,y2.trans hcon⟩)⟩
     ·rw[tk]at hy
      rcases mem_append.mp hy with hy|hy
      ·exact mem_append_left _ (dk y hy)
      ·have:y=p:=by simpa using hy
       subst this
       exact mem_append_right _ (GS.bz hpL)
   ·have hin:p∈ks:=by simpa using hc
    refine⟨_,_,_,ks,ad,rfl,sH,hF,nk,ck,fun y hy=>?_⟩
    rw[tk]at hy
    rcases mem_append.mp hy with hy|hy
    ·exact dk y hy
    ·have:y=p:=by simpa using hy
     rw[this]
     exact hin
  ·rintro σ H' ⟨v5,v6,v7,ks,ad,rfl,sH,hF,nk,ck,dk⟩
   rw[length_map,take_length]at dk
   exact⟨_,rfl,k H' fd1' ks ad (s1.trans sH) nfd (fun p hp=>(ck p (dk p hp)).2.2.1) ⟨hF,nk,fun p=>⟨fun h=>(ck p h).1,dk p⟩,fun p hp=>(ck p (dk p hp)).2.1⟩⟩
end
theorem jm{g F:Nat→V}:∀(ksB ks:List Nat) (f:Nat→V),ksB.Nodup→(∀ k∈ksB,k∉ks)→(∀ x∈ks,F x=f x)→(∀ x∈ksB,F x=g x)→cZ (dct ks f) (dct ksB g)=dct (ks++ksB) F
 |[],ks,f,_,_,h1,_=>by
  rw[append_nil]
  exact dX fun x hx=>(h1 x hx).symm
 |k::ksB,ks,f,nd,off,h1,h2=>by
  rw[nodup_cons]at nd
  show cZ (cC (dct ks f) (Sum.inl (k:Int)) (g k)) (dct ksB g)=_
  have e:cC (dct ks f) (Sum.inl (k:Int)) (g k)=dct (ks++[k]) F:=by
   rw[← h2 k mem_cons_self]
   exact yP (off k mem_cons_self) h1
  rw[e,jm ksB (ks++[k]) F nd.2 (fun x hx z=>?_) (fun x _=>rfl) (fun x hx=>h2 x (mem_cons_of_mem _ hx)),append_assoc]
  ·rfl
  ·rcases mem_append.mp z with z|z
   ·exact off x (mem_cons_of_mem _ hx) z
   ·have:x=k:=by simpa using z
    exact nd.1 (this▸hx)
section
noncomputable def pf2(nb:List (List Nat))(c:Nat→Int)(A B:List Nat)(p:Nat):List Nat:=if p∈A then GS.pc (lkN nb c A) A p else GS.pc (lkN nb c A) B p
theorem vP{nb:List (List Nat)}{c:Nat→Int}{A B:List Nat}(F:GS.o9 (aI nb) c A B):lkN nb c B=lkN nb c A:=by
 unfold lkN
 rw[GS.xh F]
abbrev jO:Stmt:=top 29
theorem scBothPieces:ax ["near","parting","points","images","pieces"] ["near","parting","points","images"] (ak jO):=fsc
def cb:Sp:=fun vs H Q _=>∃(a b d e:Addr) (nb:List (List Nat)) (as:List Addr) (PL A B:List Nat) (c:Nat→Int),vs=[.ref a,.ref b,.ref d,.ref e]∧NearAt H a nb as∧PartAt H b PL c∧aJ H d A∧aJ H e B∧PtsOk nb PL A∧PtsOk nb PL B∧GS.o9 (aI nb) c A B∧
 ∀ H' q ks ad,Same H H'→H q=none→PcsAt H' q (A++B) (pf2 nb c A B) ks ad→Q (.ref q) H'
theorem mT{f:Addr}{fd:FuncData}(F:Fun K "both_pieces" "both_pieces" jO f fd){f1:Addr}{fd1:FuncData}(C1:Cal P w K mg base 3 "pieces_of" ["near","parting","points"] kM f1 fd1):FnOk P w K mg base CX0 4 f fd ["near","parting","points","images"] cb:=by
 refine F.ok scBothPieces (fun vs H Q E h=>?_) (fun cdv Ar outer s H vs Q E hr h=>?_)
 ·obtain⟨a,b,d,e,nb,as,PL,A,B,c,rfl,_⟩:=h
  rfl
 ·obtain⟨a,b,d,e,nb,as,PL,A,B,c,rfl,N,hP,hA,hB,OA,OB,Fr,k⟩:=h
  have nd:=scBothPieces.nd
  refine⟨_,af (ay (i:=4) nd rfl (Or.inl rfl) (aq C1 hr (ae (pv 0) (ae (pv 1) (ae (pv 2) ai)))))
   (af (cj (ou (pv 4) (aq C1 hr (ae (pv 0) (ae (pv 1) (ae (pv 3) ai)))) ⟨rfl,rfl,rfl,rfl⟩)) (aj (au (pv 4)))),?_⟩
  refine⟨_,rfl,_,rfl,_,rfl,a,b,d,nb,as,PL,A,c,rfl,N,hP,hA,OA,Fr.sym,fun H1 q1 ks1 ad1 s1 hq1 had1 G1=>?_⟩
  refine⟨_,rfl,q1,rfl,.inl ⟨_,.inl G1.dct⟩,_,rfl,_,rfl,_,rfl,a,b,e,nb,as,PL,B,c,rfl,N.mono s1,hP.mono s1,s1 _ _ hB,OB,Fr.sym,fun H2 q2 ks2 ad2 s2 hq2 had2 G2=>?_⟩
  have G1':=G1.mono s2
  have q12:q1≠q2:=fun z=>by rw[← z,G1.dct]at hq2;cases hq2
  have lA:=OA.len
  have lB:=OB.len
  have k1:ks1.length≤A.length:=GS.aW G1.nd fun p hp=>(G1.mem p).mp hp
  have k2:ks2.length≤B.length:=GS.aW G2.nd fun p hp=>(G2.mem p).mp hp
  have off:∀ x∈ks2,x∉ks1:=fun x h2 h1=>Fr.dis x ((G1.mem x).mp h1) ((G2.mem x).mp h2)
  let ad:Nat→Addr:=fun p=>if p∈A then ad1 p else ad2 p
  have eA:∀ p∈A,ad p=ad1 p:=fun p hp=>if_pos hp
  have eB:∀ p∈B,ad p=ad2 p:=fun p hp=>if_neg fun z=>Fr.dis p z hp
  have em:=jm (g:=fun p=>V.ref (ad2 p)) (F:=fun p=>V.ref (ad p)) ks2 ks1 (fun p=>V.ref (ad1 p)) G2.nd off (fun x hx=>by rw[eA x ((G1.mem x).mp hx)]) (fun x hx=>by rw[eB x ((G2.mem x).mp hx)])
  refine⟨q2,_,_,rfl,q12,G1'.dct,G2.dct,by rw[aT,aT];exact le_of_lt (aC (by omega)),by rw[em,aT,length_append];exact le_of_lt (aC (by omega)),_,rfl,?_⟩
  rw[em]
  have nq:∀(u:Addr) (l:List Nat),aJ H2 u l→u≠q1:=fun u l e=>dY e G1'.dct (fun z=>nomatch z)
  refine k _ q1 (ks1++ks2) ad ((s1.trans s2).put hq1) hq1 ⟨ah,nodup_append.mpr ⟨G1.nd,G2.nd,fun x h1 y h2 e=>off y h2 (e▸h1)⟩,fun p=>?_,fun p hp=>?_⟩
  ·rw[mem_append,mem_append,G1.mem,G2.mem]
  ·show upd H2 q1 _ (ad p)=_
   rcases mem_append.mp hp with hp|hp
   ·rw[eA p hp,ao (nq _ _ (G1'.row p hp)),G1'.row p hp]
    unfold pf2
    rw[if_pos hp]
   ·rw[eB p hp,ao (nq _ _ (G2.row p hp)),G2.row p hp]
    unfold pf2
    rw[if_neg (fun z=>Fr.dis p z hp),vP Fr]
abbrev uN:Stmt:=top 30
theorem scAround:ax ["near","parting","points","images","point","image","chosen","other"] ["near","parting","points","images","point","image"] (ak uN):=fsc
def fN:Sp:=fun vs H Q _=>∃(a b d e:Addr) (nb:List (List Nat)) (as:List Addr) (PL A B:List Nat) (c:Nat→Int) (p v:Nat),vs=[.ref a,.ref b,.ref d,.ref e,.int (p:Nat),.int (v:Nat)]∧NearAt H a nb as∧PartAt H b PL c∧aJ H d A∧aJ H e B∧NbOk nb (A++B)∧(∀ x∈A++B,x∈PL)∧A.length≤16∧B.length≤16∧GS.Sides (aI nb) A B∧p∈A∧v∈B∧
 (¬(∃ g,GS.Mp (aI nb) (GS.chosen c p v) A B g)→∀ H',Same H H'→Q .non H')∧(∀ dd,GS.Deepest (aI nb) (GS.chosen c p v) dd A B→∀ H' q,Same H H'→PartAt H' q (A++B) dd→Q (.ref q) H')
theorem vT{f:Addr}{fd:FuncData}(F:Fun K "parting_around" "parting_around" uN f fd)(T:Txt K mg){f1:Addr}{fd1:FuncData}(C1:Cal P w K mg base 2 "even_parting" ["near","parting","points","images"] dD f1 fd1):FnOk P w K mg base CX0 3 f fd ["near","parting","points","images","point","image"] fN:=by
 refine F.ok scAround (fun vs H Q E h=>?_) (fun cdv Ar outer s H vs Q E hr h=>?_)
 ·obtain⟨a,b,d,e,nb,as,PL,A,B,c,p,v,rfl,_⟩:=h
  rfl
 ·obtain⟨a,b,d,e,nb,as,PL,A,B,c,p,v,rfl,N,hP,hA,hB,O,sub,lA,lB,S,hp,hv,kn,ks⟩:=h
  have nd:=scAround.nd
  have hu:=cf hr
  obtain⟨tc,hc⟩:=T.chosen
  refine⟨_,af (ay (i:=6) nd rfl (Or.inl rfl) df)
   (af (bC PassesOwn.never rfl (aY (a0 jt (pv 2) (pv 3))) (aA (i:=7) nd rfl (Or.inl rfl)) (aj (cA hu (pv 6) (pv 7) (a4 hu (pv 1) (pv 7) (fun _ _=>rfl)) rfl)))
   (af (cA hu (pv 6) (pv 4) (aD (v:= .int (-1)) rfl hc ⟨tc,rfl⟩) rfl) (af (cA hu (pv 6) (pv 5) (aD (v:= .int (-1)) rfl hc ⟨tc,rfl⟩) rfl)
   (aj (au (aq C1 hr (ae (pv 0) (ae (pv 6) (ae (pv 2) (ae (pv 3) ai)))))))))),?_⟩
  intro g hg
  have s0:Same H (upd H g (.dK [])):=Same.new hg
  refine⟨_,rfl,_,rfl,d,e,_,_,rfl,rfl,s0 _ _ hA,s0 _ _ hB,by rw[length_map,length_map];exact le_of_lt (aC (by omega)),fun l hl=>?_⟩
  have gl:g≠l:=fun z=>by rw[← z,ah]at hl;cases hl
  have nl:H l=none:=s0.free hl
  have el:nums A++nums B=nums (A++B):=by unfold nums;rw[map_append]
  rw[el]
  have s1:Same H (upd (upd H g (.dK [])) l (.lst (nums (A++B)))):=s0.trans (Same.new hl)
  refine⟨l,rfl,⟨_,SqL.of ah⟩,kW (K:=K) (a:=l) (xs:=nums (A++B)) (fun i σ H'=>∃ x:Option V,σ=[some (.ref a),some (.ref b),some (.ref d),some (.ref e),some (.int (p:Nat)),some (.int (v:Nat)),some (.ref g),x]∧Same H H'∧aJ H' l (A++B)∧PartAt H' g ((A++B).take i) c)
   ⟨none,rfl,s1,ah,by show upd _ l _ g=_;rw[ao gl,ah];rfl⟩ (fun i σ H' _ ⟨_,_,_,h,_⟩=>SqL.of h) ?_ ?_⟩
  ·rintro i x σ H' hx ⟨u,rfl,sH,hl',hG⟩
   obtain⟨o,ho,hoL,rfl⟩:=bc hx
   have hno:o∉(A++B).take i:=fun z=>by
    obtain⟨j,hj,ej⟩:=mem_take_iff_getElem.mp z
    have:=vg O.nL (i:=j) (j:=i) (by rw[List.getElem?_eq_getElem (by omega),ej]) ho
    omega
   refine⟨_,rfl,_,rfl,b,_,rfl,(hP.mono sH).get (sub o hoL),_,rfl,_,rfl,g,_,rfl,DPut.k (k:=Sum.inl ((o:Nat):Int)) hG (by rw[aT,length_take];have:=O.few;exact aC (by omega)),_,rfl,sH.put hg,?_,?_⟩
   ·show upd H' g _ l=_
    rw[ao gl.symm]
    exact hl'
   ·show upd H' g _ g=_
    rw[ah,cT (f:=fun p=>V.int (c p)) hno,← a6 ho]
  ·rintro σ H' ⟨u,rfl,sH,hl',hG⟩
   rw[length_map,take_length]at hG
   have lt:(dct (A++B) fun p=>V.int (c p)).length<sizeLine:=by rw[aT];have:=O.few;exact aC (by omega)
   refine⟨_,rfl,_,rfl,g,_,rfl,DPut.k (k:=Sum.inl ((p:Nat):Int)) hG lt,?_⟩
   rw[vd (mem_append_left _ hp)]
   refine⟨_,rfl,_,rfl,g,_,rfl,DPut.k (k:=Sum.inl ((v:Nat):Int)) ah (by rw[aT];have:=O.few;exact aC (by omega)),?_⟩
   rw[vd (mem_append_right _ hv),iD]
   have ec:dct (A++B) (fun x=>if x=v then V.int (-1)else if x=p then V.int (-1)else V.int (c x))=dct (A++B) fun x=>V.int (GS.chosen c p v x):=dX fun x _=>by
    unfold GS.chosen
    by_cases h1:x=v
    ·rw[if_pos h1,if_pos (.inr h1)]
    ·rw[if_neg h1]
     by_cases h2:x=p
     ·rw[if_pos h2,if_pos (.inl h2)]
     ·rw[if_neg h2,if_neg (fun z=>by rcases z with z|z;exact h2 z;exact h1 z)]
   rw[ec]
   have sH2:Same H (upd H' g (.dK (dct (A++B) fun x=>V.int (GS.chosen c p v x)))):=sH.put hg
   refine⟨_,rfl,_,rfl,_,rfl,_,rfl,a,g,d,e,nb,as,A,B,GS.chosen c p v,rfl,N.mono sH2,ah,sH2 _ _ hA,sH2 _ _ hB,O,lA,lB,S,fun k hk H3 s3=>?_,fun k _ _ D H3 q s3 hq=>ks _ D H3 q (sH2.trans s3) hq⟩
   exact kn (fun⟨m,hm⟩=>hk ((hm.cs S k).even S)) H3 (sH2.trans s3)
end
structure MapAt(H:Hp)(q:Addr)(S:List Nat)(h:Nat→Nat)(ks:List Nat):Prop where
 dct:H q=some (.dK (dct ks fun x=>V.int ((h x:Nat):Int)))
 nd:ks.Nodup
 mem:∀ x,x∈ks↔x∈S
theorem MapAt.mono{H H':Hp}{q:Addr}{S:List Nat}{h:Nat→Nat}{ks:List Nat}(m:MapAt H q S h ks)(s:Same H H'):MapAt H' q S h ks:=⟨s _ _ m.dct,m.nd,m.mem⟩
structure Lvl(H:Hp)(a b:Addr)(nb:List (List Nat))(as:List Addr)(A B:List Nat)(c:Nat→Int):Prop where
 near:NearAt H a nb as
 part:PartAt H b (A++B) c
 fair:GS.o9 (aI nb) c A B
 ok:NbOk nb (A++B)
 lA:A.length≤16
 lB:B.length≤16
theorem Lvl.mono{H H':Hp}{a b:Addr}{nb:List (List Nat)}{as:List Addr}{A B:List Nat}{c:Nat→Int}(l:Lvl H a b nb as A B c)(s:Same H H'):Lvl H' a b nb as A B c:=⟨l.near.mono s,l.part.mono s,l.fair,l.ok,l.lA,l.lB⟩
theorem oM{adj:Nat→Nat→Bool}{A B A' B':List Nat}(S:GS.Sides adj A B)(hA:A'.Sublist A)(hB:B'.Sublist B):GS.Sides adj A' B':=
 ⟨S.up1.sublist hA,S.up2.sublist hB,S.irr,S.sym,fun p hp q hq=>S.cross p (hA.subset hp) q (hB.subset hq),fun p hp hq=>S.dis p (hA.subset hp) (hB.subset hq)⟩
theorem cq(k:Nat→Nat→Bool)(L:List Nat)(p:Nat):(GS.pc k L p).Sublist L:=filter_sublist
theorem NbOk.sub{nb:List (List Nat)}{L M:List Nat}(O:NbOk nb L)(h:M.Sublist L):NbOk nb M:=⟨O.nL.sublist h,O.nn,O.len,fun p hp=>O.lt p (h.subset hp),le_trans h.length_le O.few⟩
section
abbrev zt:Stmt:=top 31
theorem scPut:ax ["near","parting","pieces","point","image","points","images","deepest"] ["near","parting","pieces","point","image"] (ak zt):=fsc
noncomputable abbrev pcA(nb:List (List Nat))(c:Nat→Int)(A:List Nat)(p:Nat):List Nat:=GS.pc (lkN nb c A) A p
noncomputable abbrev pcB(nb:List (List Nat))(c:Nat→Int)(A B:List Nat)(v:Nat):List Nat:=GS.pc (lkN nb c A) B v
def oj(n:Nat):Sp:=fun vs H Q _=>∃(a b g:Addr) (nb:List (List Nat)) (as:List Addr) (A B:List Nat) (c:Nat→Int) (ks:List Nat) (ad:Nat→Addr) (p v:Nat),vs=[.ref a,.ref b,.ref g,.int (p:Nat),.int (v:Nat)]∧Lvl H a b nb as A B c∧PcsAt H g (A++B) (pf2 nb c A B) ks ad∧p∈A∧v∈B∧(pcA nb c A p).length≤n∧
 (¬(∃ h,GS.Mp (aI nb) c (pcA nb c A p) (pcB nb c A B v) h∧h p=v)→∀ H',Same H H'→Q .non H')∧
 (∀ h,GS.iI (aI nb) c (pcA nb c A p) (pcB nb c A B v) p v h→∀ H' q ks2,Same H H'→H q=none→MapAt H' q (pcA nb c A p) h ks2→Q (.ref q) H')
def da(n:Nat):Sp:=fun vs H Q _=>∃(a b d e:Addr) (nb:List (List Nat)) (as:List Addr) (A B:List Nat) (c:Nat→Int),vs=[.ref a,.ref b,.ref d,.ref e]∧Lvl H a b nb as A B c∧aJ H d A∧aJ H e B∧(∀ p∈A,(pcA nb c A p).length≤n)∧
 (¬(∃ g,GS.Mp (aI nb) c A B g)→∀ H',Same H H'→Q .non H')∧
 (∀ h,GS.dz (aI nb) c A B h→∀ H' q ks2,Same H H'→H q=none→MapAt H' q A h ks2→Q (.ref q) H')
theorem rn{f:Addr}{fd:FuncData}(F:Fun K "put" "put" zt f fd)(j:Nat):FnOk P w K mg base CX0 (j+1) f fd ["near","parting","pieces","point","image"] (oj 0):=by
 refine F.ok scPut (fun vs H Q E h=>?_) (fun cdv Ar outer s H vs Q E hr h=>?_)
 ·obtain⟨a,b,g,nb,as,A,B,c,ks,ad,p,v,rfl,_⟩:=h
  rfl
 ·obtain⟨a,b,g,nb,as,A,B,c,ks,ad,p,v,rfl,_,_,hp,_,h0,_⟩:=h
  have:=GS.bz (k:=lkN nb c A) hp
  have e:pcA nb c A p=[]:=length_eq_zero_iff.mp (by omega)
  rw[show GS.pc (lkN nb c A) A p=[]from e]at this
  cases this
theorem AM{n j:Nat}(hj:3≤j){f:Addr}{fd:FuncData}(F:Fun K "put" "put" zt f fd)(T:Txt K mg){f1:Addr}{fd1:FuncData}(C1:Cal P w K mg base 3 "parting_around" ["near","parting","points","images","point","image"] fN f1 fd1){f2:Addr}{fd2:FuncData}(C2:Cal P w K mg base j "first_map" ["near","parting","points","images"] (da n) f2 fd2):
  FnOk P w K mg base CX0 (j+1) f fd ["near","parting","pieces","point","image"] (oj (n+1)):=by
 refine F.ok scPut (fun vs H Q E h=>?_) (fun cdv Ar outer s H vs Q E hr h=>?_)
 ·obtain⟨a,b,g,nb,as,A,B,c,ks,ad,p,v,rfl,_⟩:=h
  rfl
 ·obtain⟨a,b,g,nb,as,A,B,c,ks,ad,p,v,rfl,L,G,hp,hv,hn,kn,kf⟩:=h
  have nd:=scPut.nd
  have hu:=cf hr
  have hr3:Room 3 _:=hr.mono hj
  refine⟨_,af (ay (i:=5) nd rfl (Or.inl rfl) (a4 hu (pv 2) (pv 3) (fun _ _=>rfl))) (af (ay (i:=6) nd rfl (Or.inl rfl) (a4 hu (pv 2) (pv 4) (fun _ _=>rfl)))
   (af (aQ (gy (aH rD (a4 hu (pv 1) (pv 3) (fun _ _=>rfl)) (a4 hu (pv 1) (pv 4) (fun _ _=>rfl)) (nomark _)) (eW (aH rD (aS (K:=K) rfl T.len (pv 5)) (aS (K:=K) rfl T.len (pv 6)) (nomark _)))).pt (aj (au cz)) aG)
   (af (aQ (aH bE (aS (K:=K) rfl T.len (pv 5)) az (nomark _)) (aj (au (kG (ik (pv 3) (pv 4) kl) rfl rfl (by decide) (by decide)))) aG)
   (af (ay (i:=7) nd rfl (Or.inl rfl) (aq C1 hr3 (ae (pv 0) (ae (pv 1) (ae (pv 5) (ae (pv 6) (ae (pv 3) (ae (pv 4) ai))))))))
   (af (aQ (aH qa (pv 7) cz (nomark _)) (aj (au cz)) aG)
   (aj (au (aq C2 hr (ae (pv 0) (ae (pv 7) (ae (pv 5) (ae (pv 6) ai)))))))))))),?_⟩
  have hpAB:p∈A++B:=mem_append_left _ hp
  have hvAB:v∈A++B:=mem_append_right _ hv
  have rp:aJ H (ad p) (pcA nb c A p):=by
   have:=G.row p hpAB
   unfold pf2 at this
   rw[if_pos hp]at this
   exact this
  have rv:aJ H (ad v) (pcB nb c A B v):=by
   have:=G.row v hvAB
   unfold pf2 at this
   rw[if_neg (fun z=>L.fair.dis v z hv)]at this
   exact this
  have slA:=cq (lkN nb c A) A p
  have slB:=cq (lkN nb c A) B v
  have pself:p∈pcA nb c A p:=GS.bz hp
  have vself:v∈pcB nb c A B v:=GS.bz hv
  have len1:(pcA nb c A p).length≤A.length:=slA.length_le
  have len2:(pcB nb c A B v).length≤B.length:=slB.length_le
  have lA:=L.lA
  have lB:=L.lB
  refine⟨_,rfl,_,rfl,g,_,rfl,G.get hpAB,_,rfl,_,rfl,g,_,rfl,G.get hvAB,?_⟩
  refine⟨_,rfl,_,rfl,b,_,rfl,L.part.get hpAB,_,rfl,_,rfl,b,_,rfl,L.part.get hvAB,rfl,_,rfl,?_⟩
  refine aK (fun hc=>?_) (fun hc=>?_)
  ·refine uC (kn (fun⟨h,m,e⟩=>?_) H (Same.refl _))
   have:=m.col p pself
   rw[e]at this
   rw[this]at hc
   simp at hc
  ·have ec:c p=c v:=by simpa using hc
   refine⟨_,rfl,ad p,_,rfl,.inl (SqL.of rp),_,rfl,ad v,_,rfl,.inl (SqL.of rv),rfl,_,rfl,?_⟩
   refine aK (fun hl=>?_) (fun hl=>?_)
   ·refine kn (fun⟨h,m,e⟩=>?_) H (Same.refl _)
    have:=m.len
    rw[length_map,length_map,this]at hl
    simp at hl
   ·have el:(pcA nb c A p).length=(pcB nb c A B v).length:=by
     rw[length_map,length_map]at hl
     have:((pcA nb c A p).length:Int)=((pcB nb c A B v).length:Int):=by simpa using hl
     omega
    refine⟨_,rfl,ad p,_,rfl,.inl (SqL.of rp),rfl,_,rfl,?_⟩
    refine aK (fun h1=>?_) (fun h1=>?_)
    ·have l1:(pcA nb c A p).length=1:=by
      rw[length_map]at h1
      have:=V.int.inj (of_decide_eq_true h1)
      omega
     obtain⟨x,ex⟩:=List.length_eq_one_iff.mp l1
     obtain⟨y,ey⟩:=List.length_eq_one_iff.mp (el▸l1)
     have xp:x=p:=by rw[ex]at pself;exact(by simpa using pself:p=x).symm
     have yv:y=v:=by rw[ey]at vself;exact(by simpa using vself:v=y).symm
     subst xp;subst yv
     intro q hq
     refine⟨_,rfl,_,rfl,ah,[(Sum.inl ((x:Nat):Int),V.int ((y:Nat):Int))],rfl,by show 1≤15;decide,?_⟩
     rw[iD]
     refine kf (fun _=>y) ?_ _ q [x] (Same.new hq) hq ?_
     ·rw[ex,ey]
      have onex:∀ r,r∈[x]→r=x:=fun r hr=>by simpa using hr
      refine⟨⟨rfl,fun r hr=>by simp,fun r hr t ht _=>by rw[onex r hr,onex t ht],fun r hr=>by rw[onex r hr,ec],fun r hr t ht=>by rw[onex r hr,onex t ht,L.fair.irr,L.fair.irr]⟩,rfl,fun h' m e r hr _=>?_⟩
      rw[onex r hr,e]
      exact le_refl _
     ·rw[ex]
      exact⟨ah,by simp,fun z=>Iff.rfl⟩
    ·have l2:2≤(pcA nb c A p).length:=by
      have:0<(pcA nb c A p).length:=length_pos_iff.mpr (fun z=>by rw[z]at pself;cases pself)
      have:(pcA nb c A p).length≠1:=fun z=>h1 (by rw[length_map,z];rfl)
      omega
     have sl:(pcA nb c A p++pcB nb c A B v).Sublist (A++B):=slA.append slB
     have Sd:GS.Sides (aI nb) (pcA nb c A p) (pcB nb c A B v):=oM L.fair.toSides slA slB
     have nnP:∀ q∈pcA nb c A p++pcB nb c A B v,0≤c q:=fun q hq=>L.fair.nn q (sl.subset hq)
     refine⟨_,rfl,_,rfl,_,rfl,_,rfl,_,rfl,_,rfl,a,b,ad p,ad v,nb,as,A++B,pcA nb c A p,pcB nb c A B v,c,p,v,rfl,L.near,L.part,rp,rv,L.ok.sub sl,fun x hx=>sl.subset hx,by omega,by omega,Sd,pself,vself,fun no H1 s1=>?_,fun dd D H1 q s1 hq=>?_⟩
     ·refine⟨_,rfl,rfl,_,rfl,uC (kn (fun⟨h,m,e⟩=>no ⟨h,(GS.g7 nnP Sd.dis pself vself ec).mpr ⟨m,e⟩⟩) H1 s1)⟩
     ·refine⟨_,rfl,rfl,_,rfl,vJ ?_⟩
      have Lv:Lvl H1 a q nb as (pcA nb c A p) (pcB nb c A B v) dd:=⟨L.near.mono s1,hq,D.fair,L.ok.sub sl,by omega,by omega⟩
      refine⟨_,rfl,_,rfl,_,rfl,_,rfl,a,q,ad p,ad v,nb,as,pcA nb c A p,pcB nb c A B v,dd,rfl,Lv,s1 _ _ rp,s1 _ _ rv,fun r hr=>?_,fun no H2 s2=>?_,fun h Fm H2 q2 ks2 s2 hq2 M2=>?_⟩
      ·have:=GS.rf D.fair pself (fun q hq e=>D.lone nnP Sd.dis pself vself hq e) l2 hr
       exact Nat.le_of_succ_le_succ (le_trans this hn)
      ·exact kn (fun⟨h,m,e⟩=>no ⟨h,(D.put nnP Sd.dis pself vself ec).mpr ⟨m,e⟩⟩) H2 (s1.trans s2)
      ·exact kf h (D.firstPut nnP Sd.dis pself vself ec Fm) H2 q2 ks2 (s1.trans s2) (s1.free hq2) M2
abbrev i8:Stmt:=top 32
theorem scFirstPut:ax ["near","parting","pieces","point","images","image","placed"] ["near","parting","pieces","point","images"] (ak i8):=fsc
def mG(n:Nat):Sp:=fun vs H Q _=>∃(a b g d:Addr) (nb:List (List Nat)) (as:List Addr) (A B M:List Nat) (c:Nat→Int) (ks:List Nat) (ad:Nat→Addr) (p:Nat),vs=[.ref a,.ref b,.ref g,.int (p:Nat),.ref d]∧Lvl H a b nb as A B c∧PcsAt H g (A++B) (pf2 nb c A B) ks ad∧aJ H d M∧M.Sublist B∧p∈A∧(pcA nb c A p).length≤n∧
 ((∀ v∈M,¬∃ h,GS.Mp (aI nb) c (pcA nb c A p) (pcB nb c A B v) h∧h p=v)→∀ H',Same H H'→Q .non H')∧
 (∀ v h,v∈M→(∀ u∈M,u<v→¬∃ h,GS.Mp (aI nb) c (pcA nb c A p) (pcB nb c A B u) h∧h p=u)→GS.iI (aI nb) c (pcA nb c A p) (pcB nb c A B v) p v h→∀ H' q ks2,Same H H'→H q=none→MapAt H' q (pcA nb c A p) h ks2→Q (.ref q) H')
theorem rY{n j:Nat}{f:Addr}{fd:FuncData}(F:Fun K "first_put" "first_put" i8 f fd){f1:Addr}{fd1:FuncData}(C1:Cal P w K mg base j "put" ["near","parting","pieces","point","image"] (oj n) f1 fd1):FnOk P w K mg base CX0 (j+1) f fd ["near","parting","pieces","point","images"] (mG n):=by
 refine F.ok scFirstPut (fun vs H Q E h=>?_) (fun cdv Ar outer s H vs Q E hr h=>?_)
 ·obtain⟨a,b,g,d,nb,as,A,B,M,c,ks,ad,p,rfl,_⟩:=h
  rfl
 ·obtain⟨a,b,g,d,nb,as,A,B,M,c,ks,ad,p,rfl,L,G,hM,sM,hp,hn,kn,kf⟩:=h
  have nd:=scFirstPut.nd
  refine⟨_,af (bC PassesOwn.never rfl (aY (pv 4)) (aA (i:=5) nd rfl (Or.inl rfl))
    (af (ay (i:=6) nd rfl (Or.inl rfl) (aq C1 hr (ae (pv 0) (ae (pv 1) (ae (pv 2) (ae (pv 3) (ae (pv 5) ai)))))))
    (aj (aQ (aH uH (pv 6) cz (nomark _)) (aj (au (pv 6))) aG))))
   (aj (au cz)),?_⟩
  have upM:M.Pairwise (· < ·):=L.fair.up2.sublist sM
  refine⟨_,rfl,d,rfl,⟨_,SqL.of hM⟩,bN (aN (K:=K) (SqL.of hM)) (fun i σ H'=>∃ v5 v6:Option V,σ=[some (.ref a),some (.ref b),some (.ref g),some (.int (p:Nat)),some (.ref d),v5,v6]∧Same H H'∧∀ v∈M.take i,¬∃ h,GS.Mp (aI nb) c (pcA nb c A p) (pcB nb c A B v) h∧h p=v)
   ⟨none,none,rfl,Same.refl _,fun v hv=>by simp at hv⟩ (fun i σ H' ⟨_,_,_,s,_⟩=>s) calm_list.mono ?_ ?_⟩
  ·rintro i x σ H' hi ⟨v5,v6,rfl,sH,no⟩ hx
   obtain⟨v,hv,hvM,rfl⟩:=bc hx
   have tk:=a6 hv
   refine⟨_,rfl,_,rfl,_,rfl,_,rfl,_,rfl,a,b,g,nb,as,A,B,c,ks,ad,p,v,rfl,L.mono sH,G.mono sH,hp,sM.subset hvM,hn,fun hno H1 s1=>?_,fun h Fp H1 q ks2 s1 hq M1=>?_⟩
   ·refine⟨_,rfl,rfl,_,rfl,vJ ⟨_,_,rfl,sH.trans s1,fun u hu=>?_⟩⟩
    rw[tk]at hu
    rcases mem_append.mp hu with hu|hu
    ·exact no u hu
    ·have:u=v:=by simpa using hu
     rw[this]
     exact hno
   ·refine⟨_,rfl,rfl,_,rfl,uC ⟨_,rfl,kf v h hvM (fun u hu hl=>no u (GS.oT upM hv hu hl)) Fp H1 q ks2 (sH.trans s1) (sH.free hq) M1⟩⟩
  ·rintro σ H' ⟨v5,v6,rfl,sH,no⟩
   rw[length_map,take_length]at no
   exact kn no H' sH
abbrev gz:Stmt:=top 33
theorem scFirstMap:ax ["near","parting","points","images","pieces","found","point","placed","taken","image"] ["near","parting","points","images"] (ak gz):=fsc
theorem lN(v:Nat)(l:List Nat):inV (V.int ((v:Nat):Int)) (nums l)=decide (v∈l):=by
 unfold inV
 rw[Bool.eq_iff_iff,List.any_eq_true,decide_eq_true_iff]
 constructor
 ·rintro⟨x,hx,e⟩
  obtain⟨u,hu,rfl⟩:=mem_map.mp hx
  have e':((u:Nat):Int)==((v:Nat):Int):=e
  have:u=v:=by have:=eq_of_beq e';omega
  exact this▸hu
 ·intro h
  exact⟨V.int ((v:Nat):Int),mem_map.mpr ⟨v,h,rfl⟩,by show(((v:Nat):Int)==((v:Nat):Int))=true;simp⟩
theorem js(l:List Nat):(nums l).all iS=true:=by
 rw[all_eq_true]
 intro x hx
 obtain⟨u,_,rfl⟩:=mem_map.mp hx
 rfl
theorem qv{n j:Nat}(hj:4≤j){f:Addr}{fd:FuncData}(F:Fun K "first_map" "first_map" gz f fd)(T:Txt K mg){f1:Addr}{fd1:FuncData}(C1:Cal P w K mg base 4 "both_pieces" ["near","parting","points","images"] cb f1 fd1){f2:Addr}{fd2:FuncData}(C2:Cal P w K mg base j "first_put" ["near","parting","pieces","point","images"] (mG n) f2 fd2):
  FnOk P w K mg base CX0 (j+1) f fd ["near","parting","points","images"] (da n):=by
 refine F.ok scFirstMap (fun vs H Q E h=>?_) (fun cdv Ar outer s H vs Q E hr h=>?_)
 ·obtain⟨a,b,d,e,nb,as,A,B,c,rfl,_⟩:=h
  rfl
 ·obtain⟨a,b,d,e,nb,as,A,B,c,rfl,L,hA,hB,hn,kn,kf⟩:=h
  have nd:=scFirstMap.nd
  have hu:=cf hr
  have hr4:Room 4 _:=hr.mono hj
  refine⟨_,af (ay (i:=4) nd rfl (Or.inl rfl) (aq C1 hr4 (ae (pv 0) (ae (pv 1) (ae (pv 2) (ae (pv 3) ai)))))) (af (ay (i:=5) nd rfl (Or.inl rfl) df)
   (af (bC PassesOwn.never rfl (aY (pv 2)) (aA (i:=6) nd rfl (Or.inl rfl))
    (aj (aQ (cI (cG hu (pv 6) (pv 5)))
     (af (ay (i:=7) nd rfl (Or.inl rfl) (aq C2 hr (ae (pv 0) (ae (pv 1) (ae (pv 4) (ae (pv 6) (ae (pv 3) ai)))))))
     (af (aQ (aH qa (pv 7) cz (nomark _)) (aj (au cz)) aG)
     (af (cj (ou (pv 5) (pv 7) ⟨rfl,rfl,rfl,rfl⟩))
     (af (ay (i:=8) nd rfl (Or.inr rfl) (aV (kT hr.hd) (by rfl) T.list (by decide +kernel) (ae (oU (pv 7)) ai)))
     (aj (dN (i:=3) rfl nd rfl rfl (gJ rfl rfl rfl (by decide +kernel)) (aY (pv 3)) (aM (own:=[("image",9)]) (show bX ["near","parting","points","images","pieces","found","point","placed","taken","image"] (ak gz) _ _=true by decide +kernel)) (fun _ _ _ _ _=>aA (i:=9) nd rfl (Or.inl rfl)) (fun _ _ _ _ _=>eM (aH (r:=rIn K true) iR (pv 9) (pv 8) rfl)) (fun _ _ _ _ _=>pv 9))))))) aG)))
   (aj (au (pv 5))))),?_⟩
  have nA:=GS.bJ L.fair.up1
  have nB:=GS.bJ L.fair.up2
  have OA:PtsOk nb (A++B) A:=⟨L.fair.up1,L.lA,fun p hp=>L.ok.lt p (mem_append_left _ hp),fun p hp=>mem_append_left _ hp⟩
  have OB:PtsOk nb (A++B) B:=⟨L.fair.up2,L.lB,fun p hp=>L.ok.lt p (mem_append_right _ hp),fun p hp=>mem_append_right _ hp⟩
  have mjs:=GS.jw (c:=c) L.fair.sym A
  have ls:=GS.gc (c:=c) L.fair.sym mjs
  refine⟨_,rfl,_,rfl,_,rfl,_,rfl,a,b,d,e,nb,as,A++B,A,B,c,rfl,L.near,L.part,hA,hB,OA,OB,L.fair,fun H1 g ks ad s1 hg G=>?_⟩
  intro fo hfo
  have nfo:H fo=none:=s1.free hfo
  have s2:Same H1 (upd H1 fo (.dK [])):=Same.new hfo
  have lA:=L.lA
  have lB:=L.lB
  refine⟨_,rfl,d,rfl,⟨_,SqL.of (s2 _ _ (s1 _ _ hA))⟩,bN (aN (K:=K) (SqL.of (s1 _ _ hA))) (fun i σ H'=>∃(v6 v7 v8:Option V) (im:Addr) (M ks:List Nat) (S:Nat→Prop) (h:Nat→Nat),σ=[some (.ref a),some (.ref b),some (.ref d),some (.ref im),some (.ref g),some (.ref fo),v6,v7,v8,none]∧Same H1 H'∧aJ H' im M∧M.Sublist B∧(∀ v,v∈M↔v∈B∧∀ q,S q→h q≠v)∧
    H' fo=some (.dK (dct ks fun x=>V.int ((h x:Nat):Int)))∧ks.Nodup∧(∀ q,q∈ks↔S q)∧GS.FI (aI nb) c (GS.mj (aI nb) c A) A B i S h)
   ⟨none,none,none,e,B,[],fun _=>False,fun _=>0,rfl,s2,s2 _ _ (s1 _ _ hB),List.Sublist.refl _,fun v=>⟨fun h=>⟨h,fun _ z=>z.elim⟩,fun h=>h.1⟩,ah,nodup_nil,fun q=>by simp,GS.FI.start _⟩ (fun i σ H' ⟨_,_,_,_,_,_,_,_,_,s,_⟩=>s) calm_list.mono ?_ ?_⟩
  ·rintro i x σ H' hi ⟨v6,v7,v8,im,M,ks',S,h,rfl,sH,hM,sM,mM,hF,nk,mk,I⟩ hx
   obtain⟨p,hp,hpA,rfl⟩:=bc hx
   refine⟨_,rfl,_,rfl,fo,_,rfl,DGet.k (k:=Sum.inl ((p:Nat):Int)) hF,_,rfl,?_⟩
   rw[cg]
   refine aK (fun hc=>?_) (fun hc=>?_)
   ·have hno:p∉ks':=by simpa using hc
    have hnS:¬ S p:=fun z=>hno ((mk p).mpr z)
    have sH1:=s1.trans sH
    refine⟨_,rfl,_,rfl,_,rfl,_,rfl,_,rfl,a,b,g,im,nb,as,A,B,M,c,ks,ad,p,rfl,L.mono sH1,G.mono sH,hM,sM,hpA,hn p hpA,fun none_ H2 t2=>?_,fun v hh hvM least Fp H2 q ks2 t2 hq MQ=>?_⟩
    ·refine⟨_,rfl,rfl,_,rfl,uC (kn ?_ H2 (sH1.trans t2))⟩
     exact I.none nA nB hp hnS fun u hu off=>none_ u ((mM u).mpr ⟨hu,off⟩)
    ·refine⟨_,rfl,rfl,_,rfl,vJ ?_⟩
     obtain⟨hvB,hvf⟩:=(mM v).mp hvM
     have hF2:=t2 _ _ hF
     have qf:q≠fo:=fun z=>by rw[z,hF]at hq;cases hq
     have offp:∀ y∈ks2,y∉ks':=fun y hy hyk=>by
      have hy1:=(MQ.mem y).mp hy
      obtain⟨hyA,s0,hs0,z0⟩:=(I.dom y).mp ((mk y).mp hyk)
      exact hnS ((I.dom p).mpr ⟨hpA,s0,hs0,z0.trans ((GS.mem_pc.mp hy1).2.symm ls hpA)⟩)
     let h':Nat→Nat:=fun y=>if y∈pcA nb c A p then hh y else h y
     have e1:∀ y∈pcA nb c A p,h' y=hh y:=fun y hy=>if_pos hy
     have e2:∀ y,S y→h' y=h y:=fun y hy=>if_neg fun z=>offp y ((MQ.mem y).mpr z) ((mk y).mpr hy)
     have em:=jm (g:=fun x=>V.int ((hh x:Nat):Int)) (F:=fun x=>V.int ((h' x:Nat):Int)) ks2 ks' (fun x=>V.int ((h x:Nat):Int)) MQ.nd offp (fun y hy=>by rw[e2 y ((mk y).mp hy)]) (fun y hy=>by rw[e1 y ((MQ.mem y).mp hy)])
     have I2:=I.put L.fair.up1 L.fair.up2 L.fair.sym mjs hp hnS hvB hvf Fp (fun u hu hl off=>least u ((mM u).mpr ⟨hu,off⟩) hl) e1 e2
     have l1:ks'.length≤A.length:=GS.aW nk fun y hy=>I.sub ((mk y).mp hy)
     have l2:ks2.length≤A.length:=GS.aW MQ.nd fun y hy=>GS.bg ((MQ.mem y).mp hy)
     refine⟨_,rfl,fo,rfl,.inl ⟨_,.inl hF2⟩,_,rfl,q,_,_,rfl,qf.symm,hF2,MQ.dct,by rw[aT,aT];exact le_of_lt (aC (by omega)),by rw[em,aT,length_append];exact le_of_lt (aC (by omega)),?_⟩
     rw[em]
     have t3:Same H1 (upd H2 fo (.dK (dct (ks'++ks2) fun x=>V.int ((h' x:Nat):Int)))):=(sH.trans t2).put hfo
     have hq3:(upd H2 fo (.dK (dct (ks'++ks2) fun x=>V.int ((h' x:Nat):Int)))) q=some (.dK (dct ks2 fun x=>V.int ((hh x:Nat):Int))):=by rw[ao qf];exact MQ.dct
     have hF3:(upd H2 fo (.dK (dct (ks'++ks2) fun x=>V.int ((h' x:Nat):Int)))) fo=some (.dK (dct (ks'++ks2) fun x=>V.int ((h' x:Nat):Int))):=ah
     have hM3:(upd H2 fo (.dK (dct (ks'++ks2) fun x=>V.int ((h' x:Nat):Int)))) im=some (.lst (nums M)):=by rw[ao (dY (t2 _ _ hM) hF2 (fun z=>nomatch z))];exact t2 _ _ hM
     generalize (upd H2 fo (.dK (dct (ks'++ks2) fun x=>V.int ((h' x:Nat):Int))))=H3 at t3 hq3 hF3 hM3
     refine⟨_,rfl,q,rfl,.inl ⟨_,.inl hq3⟩,fun vw hvw=>?_⟩
     have t4:Same H3 (upd H3 vw (VW vw q)):=Same.new hvw
     refine⟨vw,q,_,rfl,ah,.inl ⟨_,.inl (t4 _ _ hq3),rfl⟩,fun tk htk=>?_⟩
     have evals:(dct ks2 fun x=>V.int ((hh x:Nat):Int)).map (·.2)=nums (ks2.map hh):=by
      unfold dct nums
      rw[map_map,map_map]
      rfl
     rw[evals]
     have t5:=t4.trans (Same.new (o:= .lst (nums (ks2.map hh))) htk)
     have htk5:(upd (upd H3 vw (VW vw q)) tk (.lst (nums (ks2.map hh)))) tk=some (.lst (nums (ks2.map hh))):=ah
     generalize (upd (upd H3 vw (VW vw q)) tk (.lst (nums (ks2.map hh))))=H5 at t5 htk5
     have hM5:=t5 _ _ hM3
     refine⟨_,rfl,im,rfl,⟨_,SqL.of hM5⟩,fun D hD=>?_⟩
     refine fi hD (aN (SqL.of hM5)) (Same.refl _) (fun i=> !decide (M.getD i 0∈ks2.map hh)) (fun i=>V.int ((M.getD i 0:Nat):Int)) (by rw[length_map];have:=sM.length_le;omega) ?_ ?_
     ·intro i' x H6 C Nx hi' t6 hx' yes no
      obtain⟨u,hu,huM,rfl⟩:=bc hx'
      have eu:M.getD i' 0=u:=by rw[getD_eq_getElem?_getD,hu];rfl
      rw[eu]at yes no
      refine⟨rfl,_,rfl,_,rfl,tk,_,rfl,.inl (SqL.of (t6 _ _ htk5)),rfl,js _,_,rfl,?_⟩
      rw[if_pos rfl,lN]
      refine aK (fun hc6=>?_) (fun hc6=>?_)
      ·exact⟨_,rfl,yes hc6 H6 (Same.refl _)⟩
      ·exact no (by simpa using hc6) H6 (Same.refl _)
     ·intro H6 t6 hA6
      rw[length_map,eD M (fun x=> !decide (x∈ks2.map hh))]at hA6
      have t56:=t5.trans t6
      refine⟨_,_,_,D,M.filter (fun x=> !decide (x∈ks2.map hh)),ks'++ks2,_,h',rfl,t3.trans t56,hA6,filter_sublist.trans sM,fun u=>?_,t56 _ _ hF3,nodup_append.mpr ⟨nk,MQ.nd,fun y hy z hz ez=>offp z hz (ez▸hy)⟩,fun y=>?_,I2⟩
      ·rw[mem_filter,mM u]
       constructor
       ·rintro⟨⟨huB,off⟩,hn2⟩
        have hn3:u∉ks2.map hh:=by simpa using hn2
        refine⟨huB,fun y hy ey=>?_⟩
        rcases hy with hy|hy
        ·exact off y hy (by rw[← e2 y hy];exact ey)
        ·exact hn3 (mem_map.mpr ⟨y,(MQ.mem y).mpr hy,by rw[← e1 y hy];exact ey⟩)
       ·rintro⟨huB,off⟩
        refine⟨⟨huB,fun y hy ey=>off y (.inl hy) (by rw[e2 y hy];exact ey)⟩,?_⟩
        have:u∉ks2.map hh:=fun z=>by
         obtain⟨y,hy,ey⟩:=mem_map.mp z
         have hy':=(MQ.mem y).mp hy
         exact off y (.inr hy') (by rw[e1 y hy'];exact ey)
        simpa using this
      ·rw[mem_append,mk y,MQ.mem y]
   ·have hin:p∈ks':=by simpa using hc
    exact⟨_,_,_,im,M,ks',S,h,rfl,sH,hM,sM,mM,hF,nk,mk,I.skip hp ((mk p).mp hin)⟩
  ·rintro σ H' ⟨v6,v7,v8,im,M,ks',S,h,rfl,sH,hM,sM,mM,hF,nk,mk,I⟩
   rw[length_map]at I
   have len:A.length=B.length:=by
    have:=L.fair.even.length_eq
    rw[length_map,length_map]at this
    exact this
   refine⟨_,rfl,kf h (I.first rfl len) H' fo ks' (s1.trans sH) nfo ⟨hF,nk,fun y=>?_⟩⟩
   rw[mk y,I.dom y,take_length]
   exact⟨fun z=>z.1,fun z=>⟨z,y,z,.refl y⟩⟩
end
section
structure Nm(K:Frag)(mg:Str→Option Value)(x:Str)(f:Addr)(fd:FuncData)(ps:List Str):Prop where
 mg:mg x=some (.ref f)
 kp:keepIn K (.ref f)=true
 bd:Binds K fd ps []
theorem Nm.cal{x:Str}{f:Addr}{fd:FuncData}{ps:List Str}{k:Nat}{sp:Sp}(N:Nm K mg x f fd ps)(o:FnOk P w K mg base CX0 k f fd ps sp):Cal P w K mg base k x ps sp f fd:=⟨o,N.mg,N.kp,N.bd⟩
theorem Cal.mono{x:Str}{f:Addr}{fd:FuncData}{ps:List Str}{k j:Nat}{sp:Sp}(C:Cal P w K mg base k x ps sp f fd)(h:k≤j):Cal P w K mg base j x ps sp f fd:=⟨C.ok.mono h,C.mg,C.kp,C.bd⟩
theorem zC(T:Txt K mg){fA fB fP fQ fM:Addr}{dA dB dP dQ dM:FuncData}(C1:Cal P w K mg base 3 "parting_around" ["near","parting","points","images","point","image"] fN fA dA)(C2:Cal P w K mg base 4 "both_pieces" ["near","parting","points","images"] cb fB dB)
  (FP:Fun K "put" "put" zt fP dP) (NP:Nm K mg "put" fP dP ["near","parting","pieces","point","image"]) (FQ:Fun K "first_put" "first_put" i8 fQ dQ) (NQ:Nm K mg "first_put" fQ dQ ["near","parting","pieces","point","images"]) (FM:Fun K "first_map" "first_map" gz fM dM) (NM:Nm K mg "first_map" fM dM ["near","parting","points","images"]):
  ∀ n,Cal P w K mg base (5+3*n) "put" ["near","parting","pieces","point","image"] (oj n) fP dP∧Cal P w K mg base (7+3*n) "first_map" ["near","parting","points","images"] (da n) fM dM:=by
 have up:∀ n,Cal P w K mg base (5+3*n) "put" ["near","parting","pieces","point","image"] (oj n) fP dP→Cal P w K mg base (7+3*n) "first_map" ["near","parting","points","images"] (da n) fM dM:=fun n C=>by
  have c1:=NQ.cal (rY FQ C)
  have c2:=NM.cal (qv (by omega) FM T C2 c1)
  exact c2.mono (by omega)
 intro n
 induction n with
 |zero=>exact⟨NP.cal (rn FP 4),up 0 (NP.cal (rn FP 4))⟩
 |succ n ih=>
  have c:=(NP.cal (AM (by omega) FP T C1 ih.2)).mono (show 7+3*n+1≤5+3*(n+1) by omega)
  exact⟨c,up (n+1) c⟩
abbrev eK:Stmt:=top 34
theorem scFirstImages:ax ["first","second","parting","before","found","point"] ["first","second"] (ak eK):=fsc
def gQ:Sp:=fun vs H Q _=>∃(a b:Addr) (m m2:List (List Nat)) (as bs:List Addr),vs=[.ref a,.ref b]∧MatAt H a m as∧MatAt H b m2 bs∧Sq m∧Sq m2∧GS.Sides (aI (nb2 m m2)) (List.range m.length) (bU m.length m2.length)∧
 (∀ k,¬(((List.range m.length).map (csN (nb2 m m2) k)).Perm ((bU m.length m2.length).map (csN (nb2 m m2) k)))→∀ H',Same H H'→Q .non H')∧
 (¬(∃ g,GS.Mp (aI (nb2 m m2)) (fun _=>0) (List.range m.length) (bU m.length m2.length) g)→∀ H',Same H H'→Q .non H')∧
 (∀ h,GS.dz (aI (nb2 m m2)) (fun _=>0) (List.range m.length) (bU m.length m2.length) h→∀ H' q,Same H H'→H q=none→H' q=some (.lst ((List.range m.length).map fun u=>V.int ((h u:Int) - (m.length:Int))))→Q (.ref q) H')
theorem kQ{f:Addr}{fd:FuncData}(F:Fun K "first_images" "first_images" eK f fd)(T:Txt K mg){f1:Addr}{fd1:FuncData}(C1:Cal P w K mg base 4 "even_graphs" ["first","second"] cy f1 fd1){f2:Addr}{fd2:FuncData}(C2:Cal P w K mg base 3 "side_by_side" ["first","second"] jg f2 fd2)
  {f3:Addr} {fd3:FuncData} (C3:Cal P w K mg base 55 "first_map" ["near","parting","points","images"] (da 16) f3 fd3):FnOk P w K mg base CX0 56 f fd ["first","second"] gQ:=by
 refine F.ok scFirstImages (fun vs H Q E h=>?_) (fun cdv Ar outer s H vs Q E hr h=>?_)
 ·obtain⟨a,b,m,m2,as,bs,rfl,_⟩:=h
  rfl
 ·obtain⟨a,b,m,m2,as,bs,rfl,M,M2,S,S2,Sd,ku,kn,kf⟩:=h
  have nd:=scFirstImages.nd
  have hu:=cf hr
  have hr4:Room 4 _:=hr.mono (by decide)
  have hr3:Room 3 _:=hr.mono (by decide)
  refine⟨_,af (ay (i:=2) nd rfl (Or.inl rfl) (aq C1 hr4 (ae (pv 0) (ae (pv 1) ai))))
   (af (aQ (aH qa (pv 2) cz (nomark _)) (aj (au cz)) aG)
   (af (ay (i:=3) nd rfl (Or.inr rfl) (aS (K:=K) rfl T.len (pv 0)))
   (af (ay (i:=4) nd rfl (Or.inr rfl) (aq C3 hr (ae (aq C2 hr3 (ae (pv 0) (ae (pv 1) ai))) (ae (pv 2) (ae (aV (eg hr.hd) (by rfl) T.list (by decide +kernel) (ae (aV eE (by rfl) T.range (by decide +kernel) (ae (pv 3) ai)) ai))
    (ae (aV (eg hr.hd) (by rfl) T.list (by decide +kernel) (ae (aV eE (by rfl) T.range (by decide +kernel) (ae (pv 3) (ae (a0 jb az (pv 3)) ai))) ai)) ai))))))
   (af (aQ (aH qa (pv 4) cz (nomark _)) (aj (au cz)) aG)
   (aj (au (bL rfl nd (a5 rfl T.range (ae (pv 3) ai)) (aM (own:=[("point",5)]) (show bX ["first","second","parting","before","found","point"] (ak eK) _ _=true by decide +kernel)) (fun _ _ _ _ _=>aA (i:=5) nd rfl (Or.inl rfl)) (fun _ _ _ _ _=>aU) (fun _ _ _ _ _=>a0 i9 (a4 hu (pv 4) (pv 5) (fun _ _=>rfl)) (pv 3))))))))),?_⟩
  have l1:=S.len
  have l2:=S2.len
  refine⟨_,rfl,_,rfl,a,b,m,m2,as,bs,rfl,M,M2,S,S2,Sd,fun k hk H1 s1=>?_,fun k pm st De H1 q1 s1 hq1=>?_⟩
  ·exact⟨_,rfl,rfl,_,rfl,uC (ku k hk H1 s1)⟩
  ·refine⟨_,rfl,rfl,_,rfl,vJ ?_⟩
   have en:m.length=m2.length:=by
    have:=pm.length_eq
    rw[length_map,length_map,length_range,bU,length_map,length_range]at this
    exact this
   have lm:(((as.map V.ref).length:Nat):Int)=((m.length:Nat):Int):=by rw[length_map,M.len]
   refine⟨_,rfl,a,_,rfl,.inl (SqL.of (s1 _ _ M.lst)),?_⟩
   rw[lm]
   refine⟨_,rfl,_,rfl,a,b,m,m2,as,bs,rfl,M.mono s1,M2.mono s1,l1,S.row,l2,S2.row,fun H2 p2 ps2 s2 hp2 N2=>?_⟩
   refine⟨_,rfl,_,rfl,.inl ⟨_,rfl,fun r3 hr3'=>?_⟩⟩
   have t3:Same H2 (upd H2 r3 (.rng 0 ((m.length:Nat):Int))):=Same.new hr3'
   refine⟨r3,0,_,rfl,ah,by omega,by omega,by omega,by omega,fun p4 hp4=>?_⟩
   rw[eV]
   have t4:=t3.trans (Same.new (o:= .lst (nums (List.range m.length))) hp4)
   have hp4':(upd (upd H2 r3 (.rng 0 ((m.length:Nat):Int))) p4 (.lst (nums (List.range m.length)))) p4=some (.lst (nums (List.range m.length))):=ah
   generalize (upd (upd H2 r3 (.rng 0 ((m.length:Nat):Int))) p4 (.lst (nums (List.range m.length))))=H4 at t4 hp4'
   have e2:(2:Int)*((m.length:Nat):Int)=((m.length+m2.length:Nat):Int):=by omega
   refine⟨_,rfl,_,rfl,_,_,rfl,rfl,.inl ⟨by decide,by decide⟩,.inr ⟨_,_,rfl,fun r5 hr5=>?_⟩⟩
   rw[e2]
   have t5:Same H4 (upd H4 r5 (.rng ((m.length:Nat):Int) ((m.length+m2.length:Nat):Int))):=Same.new hr5
   refine⟨r5,_,_,rfl,ah,by omega,by omega,by omega,by omega,fun p6 hp6=>?_⟩
   rw[rj]
   have t6:=t5.trans (Same.new (o:= .lst (nums (bU m.length m2.length))) hp6)
   have hp6':(upd (upd H4 r5 (.rng ((m.length:Nat):Int) ((m.length+m2.length:Nat):Int))) p6 (.lst (nums (bU m.length m2.length)))) p6=some (.lst (nums (bU m.length m2.length))):=ah
   generalize (upd (upd H4 r5 (.rng ((m.length:Nat):Int) ((m.length+m2.length:Nat):Int))) p6 (.lst (nums (bU m.length m2.length))))=H6 at t6 hp6'
   have ea:=i7 m.length m2.length
   have lt2:∀ p∈List.range m.length++bU m.length m2.length,p<m.length+m2.length:=fun p hp=>by rw[ea]at hp;exact mem_range.mp hp
   have ndL:(List.range m.length++bU m.length m2.length).Nodup:=by rw[ea];exact nodup_range
   have t26:=(s2.trans t4).trans t6
   have lI:(bU m.length m2.length).length≤16:=by unfold bU;rw[length_map,length_range];exact l2
   have Lv:Lvl H6 p2 q1 (nb2 m m2) ps2 (List.range m.length) (bU m.length m2.length) (csN (nb2 m m2) k):=⟨N2.mono (t4.trans t6),by rw[ea];exact hq1.mono t26,De.fair,iY S S2 ndL lt2,by rw[length_range];exact l1,lI⟩
   have s16:=s1.trans t26
   refine⟨p2,q1,p4,p6,nb2 m m2,ps2,List.range m.length,bU m.length m2.length,_,rfl,Lv,t6 _ _ hp4',hp6',fun p hp=>?_,fun no H7 s7=>?_,fun h Fm H7 q7 ks7 s7 hq7 MQ=>?_⟩
   ·have:=(cq (lkN (nb2 m m2) (csN (nb2 m m2) k) (List.range m.length)) (List.range m.length) p).length_le
    rw[length_range]at this
    exact le_trans this l1
   ·exact⟨_,rfl,rfl,_,rfl,uC (kn (fun⟨g,mg'⟩=>no ⟨g,De.maps g mg'⟩) H7 (s16.trans s7))⟩
   ·refine⟨_,rfl,rfl,_,rfl,vJ ?_⟩
    have Fm0:=GS.Deepest.firstMp De Fm
    refine⟨_,rfl,_,rfl,by omega,by omega,fun D hD=>?_⟩
    refine bA hD (bR 0 _) (Same.refl _) (fun u=>V.int ((h u:Int) - (m.length:Int))) (by rw[show((m.length:Nat):Int).toNat=m.length by omega];omega) ?_ ?_
    ·intro i x H8 C Nx hi t8 hx cont
     have hi':i<m.length:=by rw[show((m.length:Nat):Int).toNat=m.length by omega]at hi;exact hi
     subst hx
     have ei:(0:Int)+(i:Nat)=((i:Nat):Int):=by omega
     have dg:=DGet.k (k:=Sum.inl ((i:Nat):Int)) (t8 _ _ MQ.dct)
     rw[bQ,if_pos ((MQ.mem i).mpr (mem_range.mpr hi'))]at dg
     refine⟨rfl,lcY ⟨_,rfl,_,rfl,q7,_,rfl,?_,_,rfl,_,_,rfl,rfl,cont H8 (Same.refl _)⟩⟩
     rw[ei]
     exact dg
    ·intro H8 t8 hA8
     rw[show((m.length:Nat):Int).toNat=m.length by omega]at hA8
     exact kf h Fm0 H8 D ((s16.trans s7).trans t8) ((s16.trans s7).free hD) hA8
end
theorem iO{as:List Addr}{nb:List (List Nat)}{n:Nat}(h:as.length=nb.length)(h2:nb.length=2*n):(((as.map V.ref).length:Nat):Int) / 2=((n:Nat):Int):=by
 rw[length_map,h,h2]
 omega
section
abbrev ji:Stmt:=top 36
theorem scImagesOf:ax ["near","points","before","point"] ["near","points"] (ak ji):=fsc
def dh:Sp:=fun vs H Q _=>∃(a d:Addr) (nb:List (List Nat)) (as:List Addr) (n:Nat) (L:List Nat),vs=[.ref a,.ref d]∧NearAt H a nb as∧nb.length=2*n∧aJ H d L∧L.length≤16∧∀ H' q,Same H H'→H q=none→aJ H' q (L.map (· +n))→Q (.ref q) H'
theorem qu{f:Addr}{fd:FuncData}(F:Fun K "images_of" "images_of" ji f fd)(T:Txt K mg):FnOk P w K mg base CX0 1 f fd ["near","points"] dh:=by
 refine F.ok scImagesOf (fun vs H Q E h=>?_) (fun cdv Ar outer s H vs Q E hr h=>?_)
 ·obtain⟨a,d,nb,as,n,L,rfl,_⟩:=h
  rfl
 ·obtain⟨a,d,nb,as,n,L,rfl,N,h2,hL,lL,k⟩:=h
  have nd:=scImagesOf.nd
  refine⟨_,af (ay (i:=2) nd rfl (Or.inr rfl) (a0 iL (aS (K:=K) rfl T.len (pv 0)) az))
   (aj (au (bL rfl nd (aY (pv 1)) (aM (own:=[("point",3)]) (show bX ["near","points","before","point"] (ak ji) _ _=true by decide +kernel)) (fun _ _ _ _ _=>aA (i:=3) nd rfl (Or.inl rfl)) (fun _ _ _ _ _=>aU) (fun _ _ _ _ _=>a0 cJ (pv 3) (pv 2))))),?_⟩
  refine⟨_,rfl,a,_,rfl,.inl (SqL.of N.lst),_,_,rfl,rfl,⟨by decide,by decide⟩,?_⟩
  show gS 2 (V.int ((((as.map V.ref).length:Nat):Int) / 2)) _ _ _
  rw[iO N.len h2]
  refine⟨_,rfl,d,rfl,⟨_,SqL.of hL⟩,fun D hD=>?_⟩
  refine bA hD (aN (SqL.of hL)) (Same.refl _) (fun i=>V.int ((L.getD i 0+n:Nat):Int)) (by rw[length_map];omega) ?_ ?_
  ·intro i x H' C Nx hi sH hx cont
   obtain⟨p,hp,_,rfl⟩:=bc hx
   have e:L.getD i 0=p:=by rw[getD_eq_getElem?_getD,hp];rfl
   rw[e]at cont
   have ei:((p:Nat):Int)+((n:Nat):Int)=((p+n:Nat):Int):=by omega
   have:=cont H' (Same.refl _)
   rw[← ei]at this
   exact⟨rfl,lcY ⟨_,rfl,_,rfl,_,_,rfl,rfl,this⟩⟩
  ·intro H' sH hA
   refine k H' D sH hD ?_
   show H' D=_
   rw[hA,length_map,bY L 0 (fun p=>V.int ((p+n:Nat):Int))]
   unfold nums
   rw[map_map]
   rfl
structure PlcAt(H:Hp)(d:Addr)(S:List Nat)(hs:List (Nat→Nat))(qs:List Addr):Prop where
 lst:H d=some (.lst (qs.map V.ref))
 len:qs.length=hs.length
 row:∀(i:Nat) (q:Addr) (h:Nat→Nat),qs[i]?=some q→hs[i]?=some h→∃ ks,MapAt H q S h ks
theorem PlcAt.mono{H H':Hp}{d:Addr}{S:List Nat}{hs:List (Nat→Nat)}{qs:List Addr}(p:PlcAt H d S hs qs)(s:Same H H'):PlcAt H' d S hs qs:=⟨s _ _ p.lst,p.len,fun i q h h1 h2=>let⟨ks,m⟩:=p.row i q h h1 h2;⟨ks,m.mono s⟩⟩
def stp(S:List Nat)(n:Nat)(h:Nat→Nat)(x:Nat):Nat:=if x∈S then h x - n else x
abbrev sC:Stmt:=top 37
theorem scReached:ax ["near","point","placings","before","found","waiting","start","placed","other"] ["near","point","placings"] (ak sC):=fsc
def n8:Sp:=fun vs H Q _=>∃(a d:Addr) (nb:List (List Nat)) (as:List Addr) (n p:Nat) (S U:List Nat) (hs:List (Nat→Nat)) (qs:List Addr),vs=[.ref a,.int (p:Nat),.ref d]∧NearAt H a nb as∧nb.length=2*n∧PlcAt H d S hs qs∧p∈U∧U.length≤16∧hs.length≤100∧(∀ x∈U,∀ h∈hs,stp S n h x∈U)∧(∀ h∈hs,∀ x∈S,n≤h x)∧
 ∀ H' q ks,Same H H'→H q=none→H' q=some (bB ks)→ks.Nodup→p∈ks→(∀ x∈ks,∀ h∈hs,stp S n h x∈ks)→(∀ T:Nat→Prop,T p→(∀ x,T x→∀ h∈hs,T (stp S n h x))→∀ x∈ks,T x)→Q (.ref q) H'
theorem tF{f:Addr}{fd:FuncData}(F:Fun K "reached_from" "reached_from" sC f fd)(T:Txt K mg):FnOk P w K mg base CX0 1 f fd ["near","point","placings"] n8:=by
 refine F.ok scReached (fun vs H Q E h=>?_) (fun cdv Ar outer s H vs Q E hr h=>?_)
 ·obtain⟨a,d,nb,as,n,p,S,U,hs,qs,rfl,_⟩:=h
  rfl
 ·obtain⟨a,d,nb,as,n,p,S,U,hs,qs,rfl,N,h2,Pl,hpU,lU,l100,cU,le,k⟩:=h
  have nd:=scReached.nd
  have hu:=cf hr
  refine⟨_,af (ay (i:=3) nd rfl (Or.inl rfl) (a0 iL (aS (K:=K) rfl T.len (pv 0)) az)) (af (ay (i:=4) nd rfl (Or.inl rfl) (kG (ik (pv 1) nF kl) rfl rfl (by decide) (by decide))) (af (ay (i:=5) nd rfl (Or.inl rfl) (aP (ae (pv 1) ai)))
   (af (dR PassesOwn.never (aH oe (aS (K:=K) rfl T.len (pv 5)) az (nomark _))
    (af (ay (i:=6) nd rfl (Or.inl rfl) (xa PySem.F.plainAttrs_list PySem.F.slot_list_pop PySem.F.type_list_pop xc (pv 5)))
    (aj (bC PassesOwn.never rfl (aY (pv 2)) (aA (i:=7) nd rfl (Or.inl rfl))
     (af (ay (i:=8) nd rfl (Or.inl rfl) (a0 i9 (qK hu (pv 7) (pv 6) (a0 cJ (pv 6) (pv 3)) ⟨rfl,rfl,rfl,rfl⟩) (pv 3)))
     (aj (aQ (cI (cG hu (pv 8) (pv 4))) (af (cA hu (pv 4) (pv 8) nF rfl) (aj (cj (i0 PySem.F.plainAttrs_list PySem.F.slot_list_append PySem.F.type_list_append cw (pv 5) (ae (pv 8) ai))))) aG)))))))
   (aj (au (pv 4)))))),?_⟩
  refine⟨_,rfl,a,_,rfl,.inl (SqL.of N.lst),_,_,rfl,rfl,⟨by decide,by decide⟩,?_⟩
  show gS 3 (V.int ((((as.map V.ref).length:Nat):Int) / 2)) _ _ _
  rw[iO N.len h2]
  intro g1 hg1
  refine⟨_,rfl,ah,[(Sum.inl ((p:Nat):Int),V.bl true)],rfl,by show 1≤15;decide,?_⟩
  rw[iD]
  have s1:Same H (upd H g1 (bB [p])):=Same.new hg1
  refine⟨_,rfl,by show 1≤sizeLine;decide,fun w1 hw1=>?_⟩
  have nw:H w1=none:=s1.free hw1
  have gw:g1≠w1:=fun z=>by rw[← z]at hw1;rw[show(upd H g1 (HO.dK (cZ [] [(Sum.inl ((p:Nat):Int),V.bl true)]))) g1=some _ from ah]at hw1;cases hw1
  let Lst:List Nat→Prop:=fun ks=>∀ T:Nat→Prop,T p→(∀ x,T x→∀ h∈hs,T (stp S n h x))→∀ x∈ks,T x
  let J:List Nat→List Nat→Hp→Prop:=fun ks ws H'=>Same H H'∧H' g1=some (bB ks)∧aJ H' w1 ws∧ks.Nodup∧Lst ks∧p∈ks∧∀ x∈ws,x∈ks
  let Cl:List Nat→Nat→Prop:=fun ks x=>∀ h∈hs,stp S n h x∈ks
  have lenk:∀ ks:List Nat,ks.Nodup→Lst ks→ks.length≤U.length:=fun ks h1 h2=>GS.aW h1 fun x hx=>h2 (fun x=>x∈U) hpU cU x hx
  refine⟨fun m σ H'=>∃(ks ws:List Nat) (v6 v7 v8:Option V),σ=[some (.ref a),some (.int (p:Nat)),some (.ref d),some (.int (n:Nat)),some (.ref g1),some (.ref w1),v6,v7,v8]∧J ks ws H'∧(∀ x∈ks,x∉ws→Cl ks x)∧m=2*(U.length - ks.length)+ws.length∧2*(U.length - ks.length)+ws.length≤40,
   ⟨_,[p],[p],none,none,none,rfl,⟨s1.put nw,by rw[ao gw];exact ah,ah,by simp,fun T hT _ x hx=>by have:x=p:=(by simpa using hx);subst this;exact hT,by simp,fun x hx=>hx⟩,fun x hx hn=>absurd hx hn,rfl,by simp;omega⟩,?_⟩
  rintro m σ H' ⟨ks,ws,v6,v7,v8,rfl,⟨sH,hG,hW,nk,ck,pk,wk⟩,cl,rfl,m40⟩
  refine⟨_,rfl,w1,_,rfl,.inl (SqL.of hW),_,_,rfl,rfl,_,rfl,?_⟩
  refine aK (fun hc=>?_) (fun hc=>?_)
  ·have hne:ws≠[]:=fun z=>by rw[z]at hc;simp at hc
   have hlen:0<ws.length:=length_pos_iff.mpr hne
   let x:=ws.getLast hne
   have hxw:x∈ws:=List.getLast_mem hne
   have ews:ws=ws.dropLast++[x]:=(List.dropLast_concat_getLast hne).symm
   have hlast:(nums ws)[(nums ws).length - 1]?=some (V.int ((x:Nat):Int)):=by
    rw[length_map,List.getElem?_map,List.getElem?_eq_getElem (by omega)]
    show some (V.int _)=_
    congr 3
    exact(List.getLast_eq_getElem hne).symm
   let N1:L2.St→Hp→Prop:=fun σ' H'=>∃(ks' ws':List Nat) (v6 v7 v8:Option V),σ'=[some (.ref a),some (.int (p:Nat)),some (.ref d),some (.int (n:Nat)),some (.ref g1),some (.ref w1),v6,v7,v8]∧J ks' ws' H'∧(∀ x∈ks',x∉ws'→Cl ks' x)∧2*(U.length - ks'.length)+ws'.length<2*(U.length - ks.length)+ws.length
   refine⟨N1,fun σ' H2 ⟨ks',ws',u6,u7,u8,e,j1,j2,j3⟩=>⟨_,j3,ks',ws',u6,u7,u8,e,j1,j2,rfl,by omega⟩,?_⟩
   have dl:(nums ws).dropLast=nums ws.dropLast:=by simp[nums,List.map_dropLast]
   have sH2:Same H (upd H' w1 (.lst (nums ws).dropLast)):=sH.put nw
   refine⟨_,rfl,.inl ⟨rfl,_,SqL.of hW⟩,w1,_,_,rfl,rfl,hW,hlast,?_⟩
   have Pl2:=Pl.mono sH2
   refine⟨_,rfl,d,rfl,⟨_,SqL.of Pl2.lst⟩,?_⟩
   refine bN (aN (K:=K) (SqL.of Pl.lst)) (fun i σ H'=>∃(ks' ws':List Nat) (v7 v8:Option V),σ=[some (.ref a),some (.int (p:Nat)),some (.ref d),some (.int (n:Nat)),some (.ref g1),some (.ref w1),some (.int ((x:Nat):Int)),v7,v8]∧J ks' ws' H'∧(∀ y∈ks,y∈ks')∧
    (∀ y∈ks',y∉ws'→y≠x→Cl ks' y)∧(∀ h∈hs.take i,stp S n h x∈ks')∧2*(U.length - ks'.length)+ws'.length<2*(U.length - ks.length)+ws.length)
    ⟨ks,ws.dropLast,_,_,rfl,⟨sH2,by rw[ao gw];exact hG,by show upd H' w1 _ w1=_;rw[ah,dl],nk,ck,pk,fun y hy=>wk y (List.dropLast_subset ws hy)⟩,fun y hy=>hy,fun y hy hn hne'=>cl y hy fun z=>?_,fun y hy=>by simp at hy,by rw[List.length_dropLast];omega⟩ (fun i σ H' ⟨_,_,_,_,_,j,_⟩=>j.1) calm_list.mono ?_ ?_
   ·rw[ews]at z
    rcases mem_append.mp z with z|z
    ·exact hn z
    ·exact hne' (by simpa using z)
   ·rintro i y σ H4 hi ⟨ks',ws',u7,u8,rfl,⟨sH4,hG4,hW4,nk4,ck4,pk4,wk4⟩,sub4,cl4,done4,m4⟩ hy
    obtain⟨q,hq,rfl⟩:=aX hy
    have hih:i<hs.length:=by rw[← Pl.len];simpa using hi
    have hh:=List.getElem?_eq_getElem hih
    have hmem:=getElem_mem hih
    obtain⟨ksq,MQ⟩:=Pl.row i q hs[i] hq hh
    have MQ4:=MQ.mono sH4
    have dg:=DGet.k (k:=Sum.inl ((x:Nat):Int)) MQ4.dct
    rw[bQ]at dg
    have ev:∃ z:Int,(if x∈ksq then some (V.int ((hs[i] x:Nat):Int))else none).getD (V.int (((x:Nat):Int)+((n:Nat):Int)))=V.int z∧z - ((n:Nat):Int)=((stp S n hs[i] x:Nat):Int):=by
     unfold stp
     by_cases hx:x∈S
     ·rw[if_pos ((MQ.mem x).mpr hx),if_pos hx]
      have:=le hs[i] hmem x hx
      exact⟨_,rfl,by omega⟩
     ·rw[if_neg (fun z=>hx ((MQ.mem x).mp z)),if_neg hx]
      exact⟨_,rfl,by omega⟩
    obtain⟨zz,ez,ezz⟩:=ev
    refine⟨_,rfl,q,rfl,.inl ⟨_,.inl MQ4.dct⟩,_,rfl,_,rfl,_,rfl,_,_,rfl,rfl,_,dg,?_⟩
    rw[ez]
    refine⟨_,rfl,_,_,rfl,rfl,?_⟩
    show gS 8 (V.int (zz - ((n:Nat):Int))) _ _ _
    rw[ezz]
    have tk:=a6 hh
    refine⟨_,rfl,_,rfl,g1,_,rfl,DGet.k (k:=Sum.inl ((stp S n hs[i] x:Nat):Int)) hG4,_,rfl,?_⟩
    rw[cg]
    have tx:∀ Tt:Nat→Prop,Tt p→(∀ y,Tt y→∀ h∈hs,Tt (stp S n h y))→Tt (stp S n hs[i] x):=fun Tt h0 hst=>hst x (ck Tt h0 hst x (wk x hxw)) hs[i] hmem
    have fin:∀ z,z∈hs.take (i+1)→z∈hs.take i∨stp S n z x=stp S n hs[i] x:=fun z hz=>by
     rw[tk]at hz
     rcases mem_append.mp hz with hz|hz
     ·exact .inl hz
     ·have:z=hs[i]:=by simpa using hz
      exact .inr (by rw[this])
    generalize stp S n hs[i] x=o at tx fin
    refine aK (fun hc4=>?_) (fun hc4=>?_)
    ·have hno:o∉ks':=by simpa using hc4
     have nk5:(ks'++[o]).Nodup:=pN nk4 hno
     have ck5:Lst (ks'++[o]):=fun Tt h0 hst z hz=>by
      rcases mem_append.mp hz with hz|hz
      ·exact ck4 Tt h0 hst z hz
      ·have:z=o:=by simpa using hz
       rw[this]
       exact tx Tt h0 hst
     have l5:=lenk _ nk5 ck5
     rw[length_append,length_singleton]at l5
     refine⟨_,rfl,_,rfl,g1,_,rfl,DPut.k (k:=Sum.inl ((o:Nat):Int)) hG4 (by rw[aT];exact aC (by omega)),?_⟩
     rw[cT (f:=fun _=>V.bl true) hno]
     have hW5:(upd H4 g1 (bB (ks'++[o]))) w1=some (.lst (nums ws')):=by rw[ao gw.symm];exact hW4
     refine⟨_,rfl,.inl ⟨rfl,_,SqL.of hW5⟩,_,rfl,w1,_,_,rfl,rfl,hW5,by rw[length_map];exact aC (by omega),ks'++[o],ws'++[o],_,_,rfl,⟨(sH4.put hg1).put nw,?_,?_,nk5,ck5,mem_append_left _ pk4,?_⟩,fun z hz=>mem_append_left _ (sub4 z hz),?_,?_,?_⟩
     ·rw[ao gw,ah]
     ·show upd (upd H4 g1 _) w1 _ w1=_
      rw[ah]
      simp[nums]
     ·intro z hz
      rcases mem_append.mp hz with hz|hz
      ·exact mem_append_left _ (wk4 z hz)
      ·exact mem_append_right _ hz
     ·intro z hz hzn hzx h hh'
      have hzo:z∈ks':=by
       rcases mem_append.mp hz with hz|hz
       ·exact hz
       ·exact absurd (mem_append_right _ hz) hzn
      exact mem_append_left _ (cl4 z hzo (fun w=>hzn (mem_append_left _ w)) hzx h hh')
     ·intro z hz
      rcases fin z hz with hz|hz
      ·exact mem_append_left _ (done4 z hz)
      ·exact mem_append_right _ (by rw[hz];simp)
     ·rw[length_append,length_append,length_singleton]
      omega
    ·have hin:o∈ks':=by simpa using hc4
     refine⟨ks',ws',_,_,rfl,⟨sH4,hG4,hW4,nk4,ck4,pk4,wk4⟩,sub4,cl4,fun z hz=>?_,m4⟩
     rcases fin z hz with hz|hz
     ·exact done4 z hz
     ·rw[hz]
      exact hin
   ·rintro σ H4 ⟨ks',ws',u7,u8,rfl,j4,sub4,cl4,done4,m4⟩
    rw[length_map,Pl.len,take_length]at done4
    refine⟨ks',ws',_,_,_,rfl,j4,fun y hy hn=>?_,m4⟩
    by_cases e:y=x
    ·rw[e]
     exact done4
    ·exact cl4 y hy hn e
  ·have hws:ws=[]:=by
    have:¬(0:Int)<((nums ws).length:Nat):=by simpa using hc
    rw[length_map]at this
    exact length_eq_zero_iff.mp (by omega)
   subst hws
   exact⟨_,rfl,k H' g1 ks sH hg1 hG nk pk (fun x hx=>cl x hx (by simp)) ck⟩
end
theorem vh{x p:Nat}(h:x∈[p]):x=p:=by simpa using h
section
variable{nb:List (List Nat)}{c:Nat→Int}{A:List Nat}{n:Nat}
theorem vp(nA:A.Nodup)(T:GS.Twin (aI nb) c n A){x:Nat}(hx:x∈A):GS.pc (lkN nb c A) (A.map (· +n)) (x+n)=(GS.pc (lkN nb c A) A x).map (· +n):=by
 have m:GS.Mp (aI nb) c A (A.map (· +n)) (fun p=>p+n):=T.mp.mpr (GS.Mp.id _ _ _)
 have nB:(A.map (· +n)).Nodup:=GS.a8 nA fun u v _ _ e=>by
  have e':u+n=v+n:=e
  omega
 unfold GS.pc
 rw[List.filter_map]
 congr 1
 refine filter_congr fun q hq=>?_
 have h:=m.con_iff (mj:=GS.mj (aI nb) c A) nA nB hx hq
 by_cases z:GS.Con (lkN nb c A) A x q
 ·simp[z,h.mpr z]
 ·have:¬ GS.Con (lkN nb c A) (A.map (· +n)) (x+n) (q+n):=fun w=>z (h.mp w)
  simp[z,this]
def Rp(nb:List (List Nat))(c:Nat→Int)(A:List Nat)(p o:Nat):Prop:=∃ h,GS.Mp (aI nb) c (pcA nb c A p) (pcA nb c A o) h∧h p=o
theorem Rp.of{p o:Nat}(nA:A.Nodup)(T:GS.Twin (aI nb) c n A)(hp:p∈A)(ho:o∈A){h:Nat→Nat}(m:GS.Mp (aI nb) c (pcA nb c A p) (pcB nb c A (A.map (· +n)) (o+n)) h)(e:h p=o+n):Rp nb c A p o∧(∀ x∈pcA nb c A p,n≤h x)∧GS.Mp (aI nb) c (pcA nb c A p) (pcA nb c A o) (fun x=>h x - n):=by
 have m':GS.Mp (aI nb) c (pcA nb c A p) ((pcA nb c A o).map (· +n)) h:=by
  have:=m
  unfold pcB at this
  rw[vp nA T ho]at this
  exact this
 obtain⟨m2,le⟩:=(T.two (fun q hq=>GS.bg hq)).mp m'
 exact⟨⟨_,m2,by show h p - n=o;omega⟩,le,m2⟩
theorem Rp.to{p o:Nat}(nA:A.Nodup)(T:GS.Twin (aI nb) c n A)(ho:o∈A)(r:Rp nb c A p o):∃ h,GS.Mp (aI nb) c (pcA nb c A p) (pcB nb c A (A.map (· +n)) (o+n)) h∧h p=o+n:=by
 obtain⟨h,m,e⟩:=r
 refine⟨fun x=>h x+n,?_,by show h p+n=o+n;omega⟩
 unfold pcB
 rw[vp nA T ho]
 refine(T.two (A:=A) (fun q hq=>GS.bg hq)).mpr ⟨?_,fun x _=>by omega⟩
 exact m.congr fun x _=>by show h x+n - n=h x;omega
theorem Rp.refl{p:Nat}:Rp nb c A p p:=⟨_,GS.Mp.id _ _ _,rfl⟩
theorem Rp.step{p x o:Nat}(ls:∀ p q,lkN nb c A p q=lkN nb c A q p)(nA:A.Nodup)(hp:p∈A)(ho:o∈A)(r:Rp nb c A p x)(hx:x∈pcA nb c A p){h:Nat→Nat}(m:GS.Mp (aI nb) c (pcA nb c A p) (pcA nb c A o) h):Rp nb c A p (h x)∧h x∈pcA nb c A o:=by
 obtain⟨h1,m1,e1⟩:=r
 have ex:pcA nb c A x=pcA nb c A p:=GS.fV ls hp (GS.mem_pc.mp hx).2
 rw[ex]at m1
 have hm:=m.to x hx
 have eh:pcA nb c A (h x)=pcA nb c A o:=GS.fV ls ho (GS.mem_pc.mp hm).2
 refine⟨⟨fun y=>h (h1 y),?_,?_⟩,hm⟩
 ·rw[eh]
  exact m1.comp m
 ·show h (h1 p)=h x
  rw[e1]
end
section
abbrev r8:Stmt:=top 38
theorem scOrbitOf:ax ["near","parting","pieces","point","points","before","placings","orbit","other","placed"] ["near","parting","pieces","point","points"] (ak r8):=fsc
def gI:Sp:=fun vs H Q _=>∃(a b g d:Addr) (nb:List (List Nat)) (as:List Addr) (n:Nat) (A:List Nat) (c:Nat→Int) (ks:List Nat) (ad:Nat→Addr) (p:Nat) (M:List Nat),vs=[.ref a,.ref b,.ref g,.int (p:Nat),.ref d]∧Lvl H a b nb as A (A.map (· +n)) c∧nb.length=2*n∧GS.Twin (aI nb) c n A∧PcsAt H g (A++A.map (· +n)) (pf2 nb c A (A.map (· +n))) ks ad∧aJ H d M∧M.Sublist A∧p∈M∧
 (∀ o∈M,Rp nb c A p o→∀ x∈pcA nb c A o,Rp nb c A p x→x∈M)∧
 ∀ H' q os,Same H H'→H q=none→H' q=some (bB os)→os.Nodup→(∀ o,o∈os↔o∈M∧Rp nb c A p o)→Q (.ref q) H'
theorem sU{f:Addr}{fd:FuncData}(F:Fun K "orbit_of" "orbit_of" r8 f fd)(T:Txt K mg){f1:Addr}{fd1:FuncData}(C1:Cal P w K mg base 53 "put" ["near","parting","pieces","point","image"] (oj 16) f1 fd1){f2:Addr}{fd2:FuncData}(C2:Cal P w K mg base 1 "reached_from" ["near","point","placings"] n8 f2 fd2):
  FnOk P w K mg base CX0 54 f fd ["near","parting","pieces","point","points"] gI:=by
 refine F.ok scOrbitOf (fun vs H Q E h=>?_) (fun cdv Ar outer s H vs Q E hr h=>?_)
 ·obtain⟨a,b,g,d,nb,as,n,A,c,ks,ad,p,M,rfl,_⟩:=h
  rfl
 ·obtain⟨a,b,g,d,nb,as,n,A,c,ks,ad,p,M,rfl,L,h2,Tw,G,hM,sM,hp,clo,k⟩:=h
  have nd:=scOrbitOf.nd
  have hu:=cf hr
  have hr1:Room 1 _:=hr.mono (by decide)
  refine⟨_,af (ay (i:=5) nd rfl (Or.inl rfl) (a0 iL (aS (K:=K) rfl T.len (pv 0)) az)) (af (ay (i:=6) nd rfl (Or.inl rfl) (aP ai)) (af (ay (i:=7) nd rfl (Or.inl rfl) (kG (ik (pv 3) nF kl) rfl rfl (by decide) (by decide)))
   (af (bC PassesOwn.never rfl (aY (pv 4)) (aA (i:=8) nd rfl (Or.inl rfl))
    (aj (aQ (cI (cG hu (pv 8) (pv 7)))
     (af (ay (i:=9) nd rfl (Or.inl rfl) (aq C1 hr (ae (pv 0) (ae (pv 1) (ae (pv 2) (ae (pv 3) (ae (a0 cJ (pv 8) (pv 5)) ai)))))))
     (aj (aQ (aH uH (pv 9) cz (nomark _)) (af (cj (i0 PySem.F.plainAttrs_list PySem.F.slot_list_append PySem.F.type_list_append cw (pv 6) (ae (pv 9) ai))) (aj (ay (i:=7) nd rfl (Or.inl rfl) (aq C2 hr1 (ae (pv 0) (ae (pv 3) (ae (pv 6) ai))))))) aG))) aG)))
   (aj (au (pv 7)))))),?_⟩
  have nA:=GS.bJ L.fair.up1
  have mjs:=GS.jw (c:=c) L.fair.sym A
  have ls:∀ p q,lkN nb c A p q=lkN nb c A q p:=GS.gc (c:=c) L.fair.sym mjs
  have hpA:=sM.subset hp
  have lA:=L.lA
  refine⟨_,rfl,a,_,rfl,.inl (SqL.of L.near.lst),_,_,rfl,rfl,⟨by decide,by decide⟩,?_⟩
  show gS 5 (V.int ((((as.map V.ref).length:Nat):Int) / 2)) _ _ _
  rw[iO L.near.len h2]
  refine⟨zero_le _,fun pl hpl=>?_⟩
  have s1:Same H (upd H pl (.lst [])):=Same.new hpl
  intro ob hob
  refine⟨_,rfl,ah,[(Sum.inl ((p:Nat):Int),V.bl true)],rfl,by show 1≤15;decide,?_⟩
  rw[iD]
  have s2:Same (upd H pl (.lst [])) (upd (upd H pl (.lst [])) ob (bB [p])):=Same.new hob
  have s12:=s1.trans s2
  have opl:pl≠ob:=fun z=>by rw[← z,ah]at hob;cases hob
  let S:=pcA nb c A p
  have lM:(nums M).length=M.length:=by simp
  refine⟨_,rfl,d,rfl,⟨_,SqL.of (s12 _ _ hM)⟩,bN (aN (K:=K) (SqL.of hM)) (fun i σ H'=>∃(v8 v9:Option V) (oq:Addr) (os:List Nat) (hs:List (Nat→Nat)) (qs:List Addr),σ=[some (.ref a),some (.ref b),some (.ref g),some (.int (p:Nat)),some (.ref d),some (.int (n:Nat)),some (.ref pl),some (.ref oq),v8,v9]∧Same H H'∧H oq=none∧H' oq=some (bB os)∧os.Nodup∧PlcAt H' pl S hs qs∧hs.length≤i∧
    (∀ h∈hs,∃ o∈M,GS.Mp (aI nb) c S (pcA nb c A o) (fun x=>h x - n)∧(∀ x∈S,n≤h x)∧h p - n=o)∧p∈os∧(∀ x∈os,∀ h∈hs,stp S n h x∈os)∧(∀ T:Nat→Prop,T p→(∀ x,T x→∀ h∈hs,T (stp S n h x))→∀ x∈os,T x)∧∀ o∈M.take i,Rp nb c A p o→o∈os)
   ⟨none,none,ob,[p],[],[],rfl,s12,s1.free hob,ah,by simp,⟨by rw[ao opl,ah];rfl,rfl,fun i q h z=>by simp at z⟩,zero_le _,fun h hh=>(by cases hh),by simp,fun x _ h hh=>(by cases hh),fun Tt h0 _ x hx=>(vh hx).symm▸h0,fun o ho=>by simp at ho⟩
   (fun i σ H' ⟨_,_,_,_,_,_,_,s,_⟩=>s) calm_list.mono ?_ ?_⟩
  ·rintro i x σ H' hi ⟨v8,v9,oq,os,hs,qs,rfl,sH,noq,hO,nO,Pl,lh,gd,pO,cO,lO,dn⟩ hx
   obtain⟨o,ho,hoM,rfl⟩:=bc hx
   have hiM:i<M.length:=by rw[← lM];exact hi
   have hoA:=sM.subset hoM
   have tk:=a6 ho
   have lMA:=sM.length_le
   refine⟨_,rfl,_,rfl,oq,_,rfl,DGet.k (k:=Sum.inl ((o:Nat):Int)) hO,_,rfl,?_⟩
   rw[cg]
   refine aK (fun hc=>?_) (fun hc=>?_)
   ·have ei:((o:Nat):Int)+((n:Nat):Int)=((o+n:Nat):Int):=by omega
    refine⟨_,rfl,_,rfl,_,rfl,_,rfl,_,rfl,_,rfl,_,_,rfl,rfl,?_⟩
    refine⟨a,b,g,nb,as,A,A.map (· +n),c,ks,ad,p,o+n,by rw[← ei];rfl,L.mono sH,G.mono sH,hpA,mem_map.mpr ⟨o,hoA,rfl⟩,le_trans (cq (lkN nb c A) A p).length_le lA,fun no H1 t1=>?_,fun h Fp H1 q ks2 t1 hq MQ=>?_⟩
    ·refine⟨_,rfl,rfl,_,rfl,vJ ⟨_,_,oq,os,hs,qs,rfl,sH.trans t1,noq,t1 _ _ hO,nO,Pl.mono t1,by omega,gd,pO,cO,lO,fun u hu ru=>?_⟩⟩
     rw[tk]at hu
     rcases mem_append.mp hu with hu|hu
     ·exact dn u hu ru
     ·have:u=o:=by simpa using hu
      rw[this]at ru
      exact absurd (Rp.to nA Tw hoA ru) no
    ·obtain⟨ro,le,mo⟩:=Rp.of nA Tw hpA hoA Fp.mp Fp.at_
     have Pl1:=Pl.mono t1
     refine⟨_,rfl,rfl,_,rfl,uC ?_⟩
     refine⟨_,rfl,.inl ⟨rfl,_,SqL.of Pl1.lst⟩,_,rfl,pl,_,_,rfl,rfl,Pl1.lst,by rw[length_map,Pl1.len];exact aC (by omega),?_⟩
     have t2:Same H (upd H1 pl (.lst (qs.map V.ref++[V.ref q]))):=(sH.trans t1).put hpl
     have npl:∀(u:Addr) (kv:List (Key×V)),H1 u=some (.dK kv)→u≠pl:=fun u kv e=>dY e Pl1.lst (fun z=>nomatch z)
     have Pl2:PlcAt (upd H1 pl (.lst (qs.map V.ref++[V.ref q]))) pl S (hs++[h]) (qs++[q]):=by
      refine⟨by rw[ah,map_append];rfl,by rw[length_append,length_append,Pl1.len];rfl,fun j u h' h1 h2'=>?_⟩
      have keep:∀(u:Addr) (h:Nat→Nat) (kk:List Nat),MapAt H1 u S h kk→MapAt (upd H1 pl (.lst (qs.map V.ref++[V.ref q]))) u S h kk:=fun u h kk mm=>⟨by rw[ao (npl _ _ mm.dct)];exact mm.dct,mm.nd,mm.mem⟩
      by_cases hj:j<qs.length
      ·rw[List.getElem?_append_left hj]at h1
       rw[List.getElem?_append_left (by rw[← Pl1.len];exact hj)]at h2'
       obtain⟨kk,mm⟩:=Pl1.row j u h' h1 h2'
       exact⟨kk,keep _ _ _ mm⟩
      ·rw[List.getElem?_append_right (by omega)]at h1
       rw[List.getElem?_append_right (by rw[← Pl1.len];omega),← Pl1.len]at h2'
       have hj0:j - qs.length=0:=by
        cases e:j - qs.length with
        |zero=>rfl
        |succ m=>rw[e]at h1;simp at h1
       rw[hj0]at h1 h2'
       have e1:q=u:=by simpa using h1
       have e2:h=h':=by simpa using h2'
       subst e1;subst e2
       exact⟨ks2,keep _ _ _ MQ⟩
     have gd2:∀ h'∈hs++[h],∃ o∈M,GS.Mp (aI nb) c S (pcA nb c A o) (fun x=>h' x - n)∧(∀ x∈S,n≤h' x)∧h' p - n=o:=fun h' hh'=>by
      rcases mem_append.mp hh' with hh'|hh'
      ·exact gd h' hh'
      ·have:h'=h:=by simpa using hh'
       rw[this]
       exact⟨o,hoM,mo,le,by rw[Fp.at_];omega⟩
     refine⟨_,rfl,_,rfl,_,rfl,a,pl,nb,as,n,p,S,A,hs++[h],qs++[q],rfl,L.near.mono t2,h2,Pl2,hpA,lA,by rw[length_append];simp;omega,fun x hx h' hh'=>?_,fun h' hh' x hx=>?_,fun H3 q3 ks3 t3 hq3 h3 n3 p3 c3 l3=>?_⟩
     ·obtain⟨o',ho',m',_⟩:=gd2 h' hh'
      unfold stp
      by_cases hxS:x∈S
      ·rw[if_pos hxS]
       exact GS.bg (m'.to x hxS)
      ·rw[if_neg hxS]
       exact hx
     ·obtain⟨o',ho',_,le',_⟩:=gd2 h' hh'
      exact le' x hx
     ·refine⟨_,_,q3,ks3,hs++[h],qs++[q],rfl,t2.trans t3,t2.free hq3,h3,n3,Pl2.mono t3,by rw[length_append];simp;omega,gd2,p3,c3,l3,fun u hu ru=>?_⟩
      rw[tk]at hu
      rcases mem_append.mp hu with hu|hu
      ·exact lO (fun x=>x∈ks3) p3 (fun x hx h' hh'=>c3 x hx h' (mem_append_left _ hh')) u (dn u hu ru)
      ·have eu:u=o:=by simpa using hu
       have:=c3 p p3 h (mem_append_right _ (by simp))
       unfold stp at this
       rw[if_pos (GS.bz hpA),Fp.at_]at this
       rw[eu]
       have e:o+n - n=o:=by omega
       rw[e]at this
       exact this
   ·have hin:o∈os:=by simpa using hc
    refine⟨_,_,oq,os,hs,qs,rfl,sH,noq,hO,nO,Pl,by omega,gd,pO,cO,lO,fun u hu ru=>?_⟩
    rw[tk]at hu
    rcases mem_append.mp hu with hu|hu
    ·exact dn u hu ru
    ·have:u=o:=by simpa using hu
     rw[this]
     exact hin
  ·rintro σ H' ⟨v8,v9,oq,os,hs,qs,rfl,sH,noq,hO,nO,Pl,lh,gd,pO,cO,lO,dn⟩
   rw[lM,take_length]at dn
   refine⟨_,rfl,k H' oq os sH noq hO nO fun o=>⟨fun h=>?_,fun⟨h,r⟩=>dn o h r⟩⟩
   refine lO (fun x=>x∈M∧Rp nb c A p x) ⟨hp,Rp.refl⟩ (fun x hx h' hh'=>?_) o h
   unfold stp
   by_cases hxS:x∈S
   ·rw[if_pos hxS]
    obtain⟨o',ho',m',_,e'⟩:=gd h' hh'
    obtain⟨r',hm'⟩:=Rp.step ls nA hpA (sM.subset ho') hx.2 hxS m'
    exact⟨clo o' ho' ⟨fun x=>h' x - n,m',e'⟩ _ hm' r',r'⟩
   ·rw[if_neg hxS]
    exact hx
end
def lR(U:List Nat):Nat→List (List Nat)
 |0=>[[]]
 |k+1=>(lR U k).flatMap fun r=>U.map fun u=>u::r
theorem mQ(U:List Nat):∀ k,(lR U k).length=U.length ^ k
 |0=>rfl
 |k+1=>by
  show((lR U k).flatMap fun r=>U.map fun u=>u::r).length=_
  rw[GS.dy (m:=U.length) fun r _=>length_map _,mQ U k,pow_succ]
theorem kL{U:List Nat}:∀{r:List Nat},(∀ x∈r,x∈U)→r∈lR U r.length
 |[],_=>mem_singleton.mpr rfl
 |u::r,h=>by
  show u::r∈(lR U r.length).flatMap fun r=>U.map fun u=>u::r
  exact mem_flatMap.mpr ⟨r,kL fun x hx=>h x (mem_cons_of_mem _ hx),mem_map.mpr ⟨u,h u mem_cons_self,rfl⟩⟩
theorem ui{S:(Nat→Nat)→Prop}{m:Nat}(h:GS.Card S m)(X U:List Nat)(det:∀ f g,S f→S g→(∀ x∈X,f x=g x)→f=g)(val:∀ f,S f→∀ x∈X,f x∈U):m≤U.length ^ X.length:=by
 obtain⟨l,nl,ml,rfl⟩:=h
 rw[← mQ,← length_map (as:=l) (fun f=>X.map f)]
 refine GS.aW (GS.a8 nl fun f g hf hg e=>det f g ((ml f).mp hf) ((ml g).mp hg) fun x hx=>?_) fun r hr=>?_
 ·exact List.map_inj_left.mp e x hx
 ·obtain⟨f,hf,rfl⟩:=mem_map.mp hr
  have:=kL (U:=U) (r:=X.map f) fun y hy=>by
   obtain⟨x,hx,rfl⟩:=mem_map.mp hy
   exact val f ((ml f).mp hf) x hx
  rw[length_map]at this
  exact this
theorem sW{adj:Nat→Nat→Bool}{c:Nat→Int}{S:List Nat}{p m:Nat}(nS:S.Nodup)(l16:S.length≤16)(hp:p∈S)(h:GS.Card (fun a=>GS.Aut adj c S a∧a p=p) m):m≤16 ^ 15:=by
 have lX:(S.filter fun x=>x != p).length+1≤S.length:=by
  have:=GS.aW (Y:=p::S.filter fun x=>x != p) (Z:=S) (nodup_cons.mpr ⟨by simp,nS.sublist filter_sublist⟩) fun x hx=>by
   rcases mem_cons.mp hx with rfl|hx
   ·exact hp
   ·exact(mem_filter.mp hx).1
  simpa using this
 have:=ui h (S.filter fun x=>x != p) S (fun f g hf hg e=>funext fun x=>by
  by_cases hx:x∈S
  ·by_cases hxp:x=p
   ·rw[hxp,hf.2,hg.2]
   ·exact e x (mem_filter.mpr ⟨hx,by simpa using hxp⟩)
  ·rw[hf.1.1 x hx,hg.1.1 x hx]) (fun f hf x hx=>hf.1.2.to x (mem_filter.mp hx).1)
 exact le_trans this (le_trans (Nat.pow_le_pow_left l16 _) (pow_le_pow_right (by decide) (by omega)))
section
structure Twn(H:Hp)(a b:Addr)(nb:List (List Nat))(as:List Addr)(n:Nat)(A:List Nat)(c:Nat→Int):Prop where
 lvl:Lvl H a b nb as A (A.map (· +n)) c
 len:nb.length=2*n
 twin:GS.Twin (aI nb) c n A
theorem Twn.mono{H H':Hp}{a b:Addr}{nb:List (List Nat)}{as:List Addr}{n:Nat}{A:List Nat}{c:Nat→Int}(t:Twn H a b nb as n A c)(s:Same H H'):Twn H' a b nb as n A c:=⟨t.lvl.mono s,t.len,t.twin⟩
theorem yd{adj:Nat→Nat→Bool}{c:Nat→Int}{n:Nat}{A S:List Nat}(T:GS.Twin adj c n A)(h:∀ x∈S,x∈A):GS.Twin adj c n S:=⟨fun p hp q hq=>T.edge p (h p hp) q (h q hq),fun p hp=>T.col p (h p hp)⟩
def lx(l:Nat):Sp:=fun vs H Q _=>∃(a b d:Addr) (nb:List (List Nat)) (as:List Addr) (n:Nat) (A:List Nat) (c:Nat→Int) (p:Nat),vs=[.ref a,.ref b,.ref d,.int (p:Nat)]∧Twn H a b nb as n A c∧p∈A∧aJ H d (pcA nb c A p)∧(pcA nb c A p).length≤l∧
 ∀ m H',Same H H'→GS.Card (fun g=>GS.Aut (aI nb) c (pcA nb c A p) g∧g p=p) m→Q (.int (m:Nat)) H'
def gB(l:Nat):Sp:=fun vs H Q _=>∃(a b d:Addr) (nb:List (List Nat)) (as:List Addr) (n:Nat) (A:List Nat) (c:Nat→Int),vs=[.ref a,.ref b,.ref d]∧Twn H a b nb as n A c∧aJ H d A∧(∀ p∈A,(pcA nb c A p).length≤l)∧
 ∀ m H',Same H H'→GS.Card (GS.Aut (aI nb) c A) m→Q (.int (m:Nat)) H'
abbrev kd:Stmt:=top 39
theorem scFixing:ax ["near","parting","points","point","image","deepest"] ["near","parting","points","point"] (ak kd):=fsc
theorem qW{f:Addr}{fd:FuncData}(F:Fun K "movings_fixing" "movings_fixing" kd f fd)(j:Nat):FnOk P w K mg base CX0 (j+1) f fd ["near","parting","points","point"] (lx 0):=by
 refine F.ok scFixing (fun vs H Q E h=>?_) (fun cdv Ar outer s H vs Q E hr h=>?_)
 ·obtain⟨a,b,d,nb,as,n,A,c,p,rfl,_⟩:=h
  rfl
 ·obtain⟨a,b,d,nb,as,n,A,c,p,rfl,_,hp,_,h0,_⟩:=h
  have:=GS.bz (k:=lkN nb c A) hp
  have e:pcA nb c A p=[]:=length_eq_zero_iff.mp (by omega)
  rw[show GS.pc (lkN nb c A) A p=[]from e]at this
  cases this
theorem wI{l j:Nat}(hj:3≤j){f:Addr}{fd:FuncData}(F:Fun K "movings_fixing" "movings_fixing" kd f fd)(T:Txt K mg){f1:Addr}{fd1:FuncData}(C1:Cal P w K mg base 3 "parting_around" ["near","parting","points","images","point","image"] fN f1 fd1){f2:Addr}{fd2:FuncData}(C2:Cal P w K mg base 1 "images_of" ["near","points"] dh f2 fd2)
  {f3:Addr} {fd3:FuncData} (C3:Cal P w K mg base j "movings_keeping" ["near","parting","points"] (gB l) f3 fd3):FnOk P w K mg base CX0 (j+1) f fd ["near","parting","points","point"] (lx (l+1)):=by
 refine F.ok scFixing (fun vs H Q E h=>?_) (fun cdv Ar outer s H vs Q E hr h=>?_)
 ·obtain⟨a,b,d,nb,as,n,A,c,p,rfl,_⟩:=h
  rfl
 ·obtain⟨a,b,d,nb,as,n,A,c,p,rfl,W,hp,hd,hl,k⟩:=h
  have nd:=scFixing.nd
  have hr3:Room 3 _:=hr.mono hj
  have hr1:Room 1 _:=hr.mono (by omega)
  refine⟨_,af (aQ (aH bE (aS (K:=K) rfl T.len (pv 2)) az (nomark _)) (aj (au az)) aG)
   (af (ay (i:=4) nd rfl (Or.inl rfl) (a0 cJ (pv 3) (a0 iL (aS (K:=K) rfl T.len (pv 0)) az)))
   (af (ay (i:=5) nd rfl (Or.inl rfl) (aq C1 hr3 (ae (pv 0) (ae (pv 1) (ae (pv 2) (ae (aq C2 hr1 (ae (pv 0) (ae (pv 2) ai))) (ae (pv 3) (ae (pv 4) ai))))))))
   (aj (au (aq C3 hr (ae (pv 0) (ae (pv 5) (ae (pv 2) ai)))))))),?_⟩
  have L:=W.lvl
  have pself:p∈pcA nb c A p:=GS.bz hp
  have sl:=cq (lkN nb c A) A p
  have len1:(pcA nb c A p).length≤A.length:=sl.length_le
  have lA:=L.lA
  refine⟨_,rfl,d,_,rfl,.inl (SqL.of hd),rfl,_,rfl,?_⟩
  refine aK (fun h1=>?_) (fun h1=>?_)
  ·have l1:(pcA nb c A p).length=1:=by
    rw[length_map]at h1
    have:=V.int.inj (of_decide_eq_true h1)
    omega
   obtain⟨x,ex⟩:=List.length_eq_one_iff.mp l1
   have xp:x=p:=by rw[ex]at pself;exact(vh pself).symm
   subst xp
   refine k 1 H (Same.refl _) ?_
   rw[ex]
   exact GS.uF
  ·have l2:2≤(pcA nb c A p).length:=by
    have:0<(pcA nb c A p).length:=length_pos_iff.mpr (fun z=>by rw[z]at pself;cases pself)
    have:(pcA nb c A p).length≠1:=fun z=>h1 (by rw[length_map,z];rfl)
    omega
   refine⟨_,rfl,_,rfl,a,_,rfl,.inl (SqL.of L.near.lst),_,_,rfl,rfl,⟨by decide,by decide⟩,_,_,rfl,rfl,?_⟩
   show gS 4 (V.int (((p:Nat):Int)+(((as.map V.ref).length:Nat):Int) / 2)) _ _ _
   rw[iO L.near.len W.len]
   have ei:((p:Nat):Int)+((n:Nat):Int)=((p+n:Nat):Int):=by omega
   rw[ei]
   have slm:((pcA nb c A p).map (· +n)).Sublist (A.map (· +n)):=sl.map _
   have slAB:(pcA nb c A p++(pcA nb c A p).map (· +n)).Sublist (A++A.map (· +n)):=sl.append slm
   have Sd:GS.Sides (aI nb) (pcA nb c A p) ((pcA nb c A p).map (· +n)):=oM L.fair.toSides sl slm
   have nnP:∀ q∈pcA nb c A p++(pcA nb c A p).map (· +n),0≤c q:=fun q hq=>L.fair.nn q (slAB.subset hq)
   have Tp:=yd W.twin (S:=pcA nb c A p) fun x hx=>GS.bg hx
   have hv:p+n∈(pcA nb c A p).map (· +n):=mem_map.mpr ⟨p,pself,rfl⟩
   have ec:c p=c (p+n):=(Tp.col p pself).symm
   refine⟨_,rfl,_,rfl,_,rfl,_,rfl,_,rfl,a,d,nb,as,n,pcA nb c A p,rfl,L.near,W.len,hd,by omega,fun H1 q1 s1 hq1 h1'=>?_⟩
   refine⟨_,rfl,_,rfl,a,b,d,q1,nb,as,A++A.map (· +n),pcA nb c A p,(pcA nb c A p).map (· +n),c,p,p+n,rfl,L.near.mono s1,L.part.mono s1,s1 _ _ hd,h1',L.ok.sub slAB,fun x hx=>slAB.subset hx,by omega,by rw[length_map];omega,Sd,pself,hv,fun no=>?_,fun dd D H2 q2 s2 hq2=>?_⟩
   ·exact absurd ⟨_,(GS.g7 nnP Sd.dis pself hv ec).mpr ⟨Tp.mp.mpr (GS.Mp.id _ _ _),rfl⟩⟩ no
   ·have id1:=(D.put nnP Sd.dis pself hv ec (g:=fun q=>q+n)).mpr ⟨Tp.mp.mpr (GS.Mp.id _ _ _),rfl⟩
    have Td:GS.Twin (aI nb) dd n (pcA nb c A p):=⟨Tp.edge,fun q hq=>id1.col q hq⟩
    have s12:=s1.trans s2
    have Wd:Twn H2 a q2 nb as n (pcA nb c A p) dd:=⟨⟨L.near.mono s12,hq2,D.fair,L.ok.sub slAB,by omega,by rw[length_map];omega⟩,W.len,Td⟩
    refine⟨_,rfl,_,rfl,_,rfl,a,q2,d,nb,as,n,pcA nb c A p,dd,rfl,Wd,s12 _ _ hd,fun r hr'=>?_,fun m H3 s3 hm=>?_⟩
    ·have:=GS.rf D.fair pself (fun q hq e=>D.lone nnP Sd.dis pself hv hq e) l2 hr'
     exact Nat.le_of_succ_le_succ (le_trans this hl)
    ·exact k m H3 (s12.trans s3) (hm.congr fun g=>GS.ue Tp pself nnP Sd.dis D g)
end
section
abbrev iB:Stmt:=top 40
theorem scKeeping:ax ["near","parting","points","pieces","total","left","point","piece","other"] ["near","parting","points"] (ak iB):=fsc
theorem PtsOk.twn{H:Hp}{a b:Addr}{nb:List (List Nat)}{as:List Addr}{n:Nat}{A:List Nat}{c:Nat→Int}(W:Twn H a b nb as n A c):PtsOk nb (A++A.map (· +n)) A∧PtsOk nb (A++A.map (· +n)) (A.map (· +n)):=
 ⟨⟨W.lvl.fair.up1,W.lvl.lA,fun p hp=>W.lvl.ok.lt p (mem_append_left _ hp),fun p hp=>mem_append_left _ hp⟩,⟨W.lvl.fair.up2,W.lvl.lB,fun p hp=>W.lvl.ok.lt p (mem_append_right _ hp),fun p hp=>mem_append_right _ hp⟩⟩
theorem kR{l j:Nat}(hj:54≤j){f:Addr}{fd:FuncData}(F:Fun K "movings_keeping" "movings_keeping" iB f fd)(T:Txt K mg){f1:Addr}{fd1:FuncData}(C1:Cal P w K mg base 4 "both_pieces" ["near","parting","points","images"] cb f1 fd1){f2:Addr}{fd2:FuncData}(C2:Cal P w K mg base 1 "images_of" ["near","points"] dh f2 fd2)
  {f3:Addr} {fd3:FuncData} (C3:Cal P w K mg base 54 "orbit_of" ["near","parting","pieces","point","points"] gI f3 fd3) {f4:Addr} {fd4:FuncData} (C4:Cal P w K mg base j "movings_fixing" ["near","parting","points","point"] (lx l) f4 fd4):FnOk P w K mg base CX0 (j+1) f fd ["near","parting","points"] (gB l):=by
 refine F.ok scKeeping (fun vs H Q E h=>?_) (fun cdv Ar outer s H vs Q E hr h=>?_)
 ·obtain⟨a,b,d,nb,as,n,A,c,rfl,_⟩:=h
  rfl
 ·obtain⟨a,b,d,nb,as,n,A,c,rfl,W,hd,hl,k⟩:=h
  have nd:=scKeeping.nd
  have hu:=cf hr
  have hr4:Room 4 _:=hr.mono (by omega)
  have hr1:Room 1 _:=hr.mono (by omega)
  have hr54:Room 54 _:=hr.mono hj
  refine⟨_,af (ay (i:=3) nd rfl (Or.inl rfl) (aq C1 hr4 (ae (pv 0) (ae (pv 1) (ae (pv 2) (ae (aq C2 hr1 (ae (pv 0) (ae (pv 2) ai))) ai)))))) (af (ay (i:=4) nd rfl (Or.inl rfl) az) (af (ay (i:=5) nd rfl (Or.inl rfl) (pv 2))
   (af (bC PassesOwn.never rfl (aY (pv 2)) (aA (i:=6) nd rfl (Or.inl rfl))
    (aj (aQ (aH (r:=rIn K false) vQ (pv 6) (pv 5) rfl)
     (af (ay (i:=7) nd rfl (Or.inr rfl) (a4 hu (pv 3) (pv 6) (fun _ _=>rfl)))
     (af (ay (i:=4) nd rfl (Or.inl rfl) (a0 jb (pv 4) (bx wF (by rfl) T.len PySem.boot_len (ae (aq C3 hr54 (ae (pv 0) (ae (pv 1) (ae (pv 3) (ae (pv 6) (ae (pv 5) ai)))))) ai))))
     (af (ay (i:=4) nd rfl (Or.inl rfl) (a0 jb (pv 4) (aq C4 hr (ae (pv 0) (ae (pv 1) (ae (pv 7) (ae (pv 6) ai)))))))
     (aj (dN (i:=5) rfl nd rfl rfl (gJ rfl rfl rfl (by decide +kernel)) (aY (pv 5)) (aM (own:=[("other",8)]) (show bX ["near","parting","points","pieces","total","left","point","piece","other"] (ak iB) _ _=true by decide +kernel)) (fun _ _ _ _ _=>aA (i:=8) nd rfl (Or.inl rfl)) (fun _ _ _ _ _=>eM (aH (r:=rIn K true) iR (pv 8) (pv 7) rfl)) (fun _ _ _ _ _=>pv 8)))))) aG)))
   (aj (au (pv 4)))))),?_⟩
  have L:=W.lvl
  have nA:=GS.bJ L.fair.up1
  have mjs:=GS.jw (c:=c) L.fair.sym A
  have ls:∀ p q,lkN nb c A p q=lkN nb c A q p:=GS.gc (c:=c) L.fair.sym mjs
  have lA:=L.lA
  obtain⟨OA,OB⟩:=PtsOk.twn W
  refine⟨_,rfl,_,rfl,_,rfl,_,rfl,_,rfl,a,d,nb,as,n,A,rfl,L.near,W.len,hd,lA,fun H1 q1 s1 hq1 h1=>?_⟩
  refine⟨a,b,d,q1,nb,as,A++A.map (· +n),A,A.map (· +n),c,rfl,L.near.mono s1,L.part.mono s1,s1 _ _ hd,h1,OA,OB,L.fair,fun H2 g ks ad s2 hg G=>?_⟩
  have s12:=s1.trans s2
  refine⟨_,rfl,_,rfl,d,rfl,⟨_,SqL.of (s12 _ _ hd)⟩,bN (aN (K:=K) (SqL.of (s12 _ _ hd))) (fun i σ H'=>∃(v6 v7:Option V) (t:Nat) (la:Addr) (LL:List Nat) (fl:Nat→Bool),σ=[some (.ref a),some (.ref b),some (.ref d),some (.ref g),some (.int (t:Nat)),some (.ref la),v6,v7,none]∧Same H2 H'∧aJ H' la LL∧LL=A.filter fl∧(∀ q∈LL,∀ r,GS.Con (lkN nb c A) A q r→r∈LL)∧(∀ p∈A.take i,p∉LL)∧∀ m,GS.Card (GS.Aut (aI nb) c LL) m→GS.Card (GS.Aut (aI nb) c A) (t*m))
   ⟨none,none,1,d,A,fun _=>true,rfl,Same.refl _,s12 _ _ hd,(List.filter_eq_self.mpr fun _ _=>rfl).symm,fun q hq r hc=>hc.mem hq,fun p hp=>by simp at hp,fun m hm=>by rw[Nat.one_mul];exact hm⟩ (fun i σ H' ⟨_,_,_,_,_,_,_,s,_⟩=>s) calm_list.mono ?_ ?_⟩
  ·rintro i x σ H' hi ⟨v6,v7,t,la,LL,fl,rfl,sH,hLL,eLL,clo,dn,cd⟩ hx
   obtain⟨p,hp,hpA,rfl⟩:=bc hx
   have tk:=a6 hp
   have sub:∀ q∈LL,q∈A:=fun q hq=>by rw[eLL]at hq;exact(mem_filter.mp hq).1
   have slL:LL.Sublist A:=by rw[eLL];exact filter_sublist
   have lLL:=slL.length_le
   refine⟨_,rfl,_,rfl,la,_,rfl,.inl (SqL.of hLL),rfl,js _,_,rfl,?_⟩
   rw[if_neg (by decide),lN]
   refine aK (fun hc=>?_) (fun hc=>?_)
   ·have hpL:p∈LL:=of_decide_eq_true hc
    have hpAB:p∈A++A.map (· +n):=mem_append_left _ hpA
    have G':=G.mono sH
    have rp:aJ H' (ad p) (pcA nb c A p):=by
     have:=G'.row p hpAB
     unfold pf2 at this
     rw[if_pos hpA]at this
     exact this
    have pcs:∀ q∈LL,GS.pc (lkN nb c A) LL q=pcA nb c A q:=fun q hq=>by
     rw[eLL]at hq clo ⊢
     exact GS.oz clo hq
    have sH2:=s12.trans sH
    refine⟨_,rfl,_,rfl,g,_,rfl,G'.get hpAB,_,rfl,_,rfl,_,rfl,_,rfl,_,rfl,_,rfl,a,b,g,la,nb,as,n,A,c,ks,ad,p,LL,rfl,L.mono sH2,W.len,W.twin,G',hLL,slL,hpL,fun o ho _ x hx _=>clo o ho x (GS.mem_pc.mp hx).2,fun H3 q3 os t3 hq3 h3 n3 m3=>?_⟩
    have l3:os.length≤LL.length:=GS.aW n3 fun o ho=>((m3 o).mp ho).1
    refine⟨q3,_,rfl,h3,_,_,rfl,rfl,.inr ⟨?_,?_⟩,?_⟩
    ·rw[aT];omega
    ·rw[aT];omega
    have W3:=W.mono (sH2.trans t3)
    refine⟨_,rfl,_,rfl,_,rfl,_,rfl,_,rfl,a,b,ad p,nb,as,n,A,c,p,rfl,W3,hpA,t3 _ _ rp,hl p hpA,fun m1 H4 t4 hm1=>?_⟩
    have b1:m1≤16 ^ 15:=sW (GS.bH nA) (le_trans (cq (lkN nb c A) A p).length_le lA) (GS.bz hpA) hm1
    have b2:(16:Nat) ^ 15<2 ^ 64:=by decide
    refine⟨_,_,rfl,rfl,.inr ⟨by omega,by omega⟩,?_⟩
    show gS 4 (V.int (((t:Nat):Int)*(((dct os fun _=>V.bl true).length:Nat):Int)*((m1:Nat):Int))) _ _ _
    rw[aT]
    have et:((t:Nat):Int)*((os.length:Nat):Int)*((m1:Nat):Int)=((t*os.length*m1:Nat):Int):=by
     rw[Int.natCast_mul,Int.natCast_mul]
    rw[et]
    have t34:=t3.trans t4
    have hLL4:=t34 _ _ hLL
    refine⟨_,rfl,la,rfl,⟨_,SqL.of hLL4⟩,fun D hD=>?_⟩
    refine fi hD (aN (SqL.of hLL4)) (Same.refl _) (fun i=> !decide (LL.getD i 0∈pcA nb c A p)) (fun i=>V.int ((LL.getD i 0:Nat):Int)) (by rw[length_map];omega) ?_ ?_
    ·intro i' x H5 C Nx hi' t5 hx' yes no
     obtain⟨u,hu,huM,rfl⟩:=bc hx'
     have eu:LL.getD i' 0=u:=by rw[getD_eq_getElem?_getD,hu];rfl
     rw[eu]at yes no
     refine⟨rfl,_,rfl,_,rfl,ad p,_,rfl,.inl (SqL.of (t5 _ _ (t34 _ _ rp))),rfl,js _,_,rfl,?_⟩
     rw[if_pos rfl,lN]
     refine aK (fun hc6=>?_) (fun hc6=>?_)
     ·exact⟨_,rfl,yes hc6 H5 (Same.refl _)⟩
     ·exact no (by simpa using hc6) H5 (Same.refl _)
    ·intro H5 t5 hA5
     rw[length_map,eD LL (fun x=> !decide (x∈pcA nb c A p))]at hA5
     have eR:LL.filter (fun x=> !decide (x∈pcA nb c A p))=LL.filter fun q=> !(GS.pc (lkN nb c A) LL p).contains q:=by
      rw[pcs p hpL]
      refine filter_congr fun q _=>?_
      simp[contains_eq_mem]
     refine⟨_,_,t*os.length*m1,D,LL.filter (fun x=> !decide (x∈pcA nb c A p)),fun q=>fl q&& !decide (q∈pcA nb c A p),rfl,(sH.trans t34).trans t5,hA5,?_,fun q hq r hcon=>?_,fun q hq=>?_,fun m2 hm2=>?_⟩
     ·conv=>lhs;rw[eLL,List.filter_filter]
      refine filter_congr fun q _=>?_
      rw[Bool.and_comm]
     ·obtain⟨q1,q2⟩:=mem_filter.mp hq
      have q2':q∉pcA nb c A p:=by simpa using q2
      refine mem_filter.mpr ⟨clo q q1 r hcon,?_⟩
      have:r∉pcA nb c A p:=fun z=>q2' (GS.mem_pc.mpr ⟨sub q q1,(GS.mem_pc.mp z).2.trans (hcon.symm ls (sub q q1))⟩)
      simpa using this
     ·rw[tk]at hq
      rcases mem_append.mp hq with hq|hq
      ·exact fun z=>dn q hq (mem_filter.mp z).1
      ·have:q=p:=by simpa using hq
       rw[this]
       intro z
       have z2:=(mem_filter.mp z).2
       rw[decide_eq_true (GS.bz (k:=lkN nb c A) hpA)]at z2
       cases z2
     ·have st:=GS.yo (adj:=aI nb) (c:=c) (k:=GS.mj (aI nb) c A) (nA.sublist slL) L.fair.sym mjs hpL eR n3 (fun o=>?_) (m:=m1) (n:=m2) (by rw[show GS.pc (GS.lk (aI nb) c (GS.mj (aI nb) c A)) LL p=pcA nb c A p from pcs p hpL];exact hm1) hm2
      ·have:=cd _ st
       rw[← mul_assoc,← mul_assoc]at this
       exact this
      ·rw[m3 o]
       refine and_congr_right fun ho=>?_
       rw[show GS.pc (GS.lk (aI nb) c (GS.mj (aI nb) c A)) LL p=pcA nb c A p from pcs p hpL,show GS.pc (GS.lk (aI nb) c (GS.mj (aI nb) c A)) LL o=pcA nb c A o from pcs o ho]
       rfl
   ·have hpn:p∉LL:=by simpa using hc
    refine⟨_,_,t,la,LL,fl,rfl,sH,hLL,eLL,clo,fun q hq=>?_,cd⟩
    rw[tk]at hq
    rcases mem_append.mp hq with hq|hq
    ·exact dn q hq
    ·have:q=p:=by simpa using hq
     rw[this]
     exact hpn
  ·rintro σ H' ⟨v6,v7,t,la,LL,fl,rfl,sH,hLL,eLL,clo,dn,cd⟩
   rw[length_map,take_length]at dn
   have e0:LL=[]:=by
    cases LL with
    |nil=>rfl
    |cons q LL'=>
     have:q∈A:=by
      have h0:q∈A.filter fl:=by rw[← eLL];exact mem_cons_self
      exact(mem_filter.mp h0).1
     exact absurd mem_cons_self (dn q this)
   subst e0
   have:=cd 1 GS.xb
   rw[mul_one]at this
   exact⟨_,rfl,k t H' (s12.trans sH) this⟩
theorem qi(T:Txt K mg){fA fB fI fO fF fK:Addr}{dA dB dI dO dF dK:FuncData}(C1:Cal P w K mg base 3 "parting_around" ["near","parting","points","images","point","image"] fN fA dA)(C2:Cal P w K mg base 4 "both_pieces" ["near","parting","points","images"] cb fB dB)(C3:Cal P w K mg base 1 "images_of" ["near","points"] dh fI dI)
  (C4:Cal P w K mg base 54 "orbit_of" ["near","parting","pieces","point","points"] gI fO dO) (FF:Fun K "movings_fixing" "movings_fixing" kd fF dF) (NF:Nm K mg "movings_fixing" fF dF ["near","parting","points","point"]) (FK:Fun K "movings_keeping" "movings_keeping" iB fK dK) (NK:Nm K mg "movings_keeping" fK dK ["near","parting","points"]):
  ∀ l,Cal P w K mg base (56+2*l) "movings_keeping" ["near","parting","points"] (gB l) fK dK:=by
 intro l
 induction l with
 |zero=>exact NK.cal (kR (by omega) FK T C2 C3 C4 (NF.cal (qW FF 54)))
 |succ l ih=>exact(NK.cal (kR (j:=57+2*l) (by omega) FK T C2 C3 C4 ((NF.cal (wI (by omega) FF T C1 C3 ih)).mono (by omega)))).mono (by omega)
abbrev gK:Stmt:=top 41
theorem k4:ax ["joined"] ["joined"] (ak gK):=fsc
structure Self(m:List (List Nat)):Prop where
 sq:Sq m
 sides:GS.Sides (aI (nb2 m m)) (List.range m.length) (bU m.length m.length)
 twin:GS.Twin (aI (nb2 m m)) (fun _=>0) m.length (List.range m.length)
theorem Self.even{m:List (List Nat)}(S:Self m)(k:Nat):((List.range m.length).map (csN (nb2 m m) k)).Perm ((bU m.length m.length).map (csN (nb2 m m) k)):=by
 have:=((S.twin.mp.mpr (GS.Mp.id _ _ _)).cs S.sides k).even S.sides
 rw[show List.range m.length++bU m.length m.length=List.range (nb2 m m).length from by rw[bW];exact i7 m.length m.length]at this
 exact this
def fS:Sp:=fun vs H Q _=>∃(a:Addr) (m:List (List Nat)) (as:List Addr),vs=[.ref a]∧MatAt H a m as∧Self m∧
 ∀ dd n H',Same H H'→GS.Deepest (aI (nb2 m m)) (fun _=>0) dd (List.range m.length) (bU m.length m.length)→GS.Card (GS.Aut (aI (nb2 m m)) dd (List.range m.length)) n→Q (.int (n:Nat)) H'
theorem x9{H:Hp}{m:List (List Nat)}(S:Self m){p q:Addr}{ps:List Addr}{k:Nat}(N:NearAt H p (nb2 m m) ps)(hq:PartAt H q (List.range (m.length+m.length)) (csN (nb2 m m) k))(D:GS.Deepest (aI (nb2 m m)) (fun _=>0) (csN (nb2 m m) k) (List.range m.length) (bU m.length m.length)):Twn H p q (nb2 m m) ps m.length (List.range m.length) (csN (nb2 m m) k):=by
 have ea:=i7 m.length m.length
 have lt2:∀ x∈List.range m.length++bU m.length m.length,x<m.length+m.length:=fun x hx=>by rw[ea]at hx;exact mem_range.mp hx
 have l1:=S.sq.len
 exact⟨⟨N,by show PartAt H q (List.range m.length++bU m.length m.length) _;rw[ea];exact hq,D.fair,iY S.sq S.sq (by show(List.range m.length++bU m.length m.length).Nodup;rw[ea];exact nodup_range) lt2,by rw[length_range];exact l1,by rw[length_map,length_range];exact l1⟩,by rw[bW];omega,S.twin.deepest D⟩
theorem jS{f:Addr}{fd:FuncData}(F:Fun K "count_movings" "count_movings" gK f fd)(T:Txt K mg){f1:Addr}{fd1:FuncData}(C1:Cal P w K mg base 3 "side_by_side" ["first","second"] jg f1 fd1){f2:Addr}{fd2:FuncData}(C2:Cal P w K mg base 4 "even_graphs" ["first","second"] cy f2 fd2)
  {f3:Addr} {fd3:FuncData} (C3:Cal P w K mg base 88 "movings_keeping" ["near","parting","points"] (gB 16) f3 fd3):FnOk P w K mg base CX0 89 f fd ["joined"] fS:=by
 refine F.ok k4 (fun vs H Q E h=>?_) (fun cdv Ar outer s H vs Q E hr h=>?_)
 ·obtain⟨a,m,as,rfl,_⟩:=h
  rfl
 ·obtain⟨a,m,as,rfl,M,S,k⟩:=h
  have hr3:Room 3 _:=hr.mono (by decide)
  have hr4:Room 4 _:=hr.mono (by decide)
  refine⟨_,aj (au (aq C3 hr (ae (aq C1 hr3 (ae (pv 0) (ae (pv 0) ai))) (ae (aq C2 hr4 (ae (pv 0) (ae (pv 0) ai)))
   (ae (aV (eg hr.hd) (by rfl) T.list (by decide +kernel) (ae (aV eE (by rfl) T.range (by decide +kernel) (ae (aS (K:=K) rfl T.len (pv 0)) ai)) ai)) ai))))),?_⟩
  have l1:=S.sq.len
  have lm:(((as.map V.ref).length:Nat):Int)=((m.length:Nat):Int):=by rw[length_map,M.len]
  refine⟨_,rfl,_,rfl,a,a,m,m,as,as,rfl,M,M,l1,S.sq.row,l1,S.sq.row,fun H1 p1 ps1 s1 hp1 N1=>?_⟩
  refine⟨_,rfl,_,rfl,a,a,m,m,as,as,rfl,M.mono s1,M.mono s1,S.sq,S.sq,S.sides,fun kk no=>absurd (S.even kk) no,fun kk pm st De H2 q2 s2 hq2=>?_⟩
  have s12:=s1.trans s2
  refine⟨_,rfl,a,_,rfl,.inl (SqL.of (s12 _ _ M.lst)),.inl ⟨_,rfl,fun r3 hr3'=>?_⟩⟩
  rw[lm]
  have t3:Same H2 (upd H2 r3 (.rng 0 ((m.length:Nat):Int))):=Same.new hr3'
  refine⟨r3,0,_,rfl,ah,by omega,by omega,by omega,by omega,fun p4 hp4=>?_⟩
  rw[eV]
  have t4:=t3.trans (Same.new (o:= .lst (nums (List.range m.length))) hp4)
  have hp4':(upd (upd H2 r3 (.rng 0 ((m.length:Nat):Int))) p4 (.lst (nums (List.range m.length)))) p4=some (.lst (nums (List.range m.length))):=ah
  generalize (upd (upd H2 r3 (.rng 0 ((m.length:Nat):Int))) p4 (.lst (nums (List.range m.length))))=H4 at t4 hp4'
  refine⟨p1,q2,p4,nb2 m m,ps1,m.length,List.range m.length,_,rfl,x9 S ((N1.mono s2).mono t4) (hq2.mono t4) De,hp4',fun p hp=>?_,fun n H5 s5 hn=>k _ n H5 ((s12.trans t4).trans s5) De hn⟩
  have:=(cq (lkN (nb2 m m) (csN (nb2 m m) kk) (List.range m.length)) (List.range m.length) p).length_le
  rw[length_range]at this
  exact le_trans this l1
end
def tFrz(t:TE):TE:=fun σ H Q=>t σ H fun x H1=>∃ d u,x= .ref d∧H1 d=some u∧Mut (some u)∧∀ od,Q x (upd H1 d (.frz od u))
theorem zT{X:Cx}{e:Expr}{t:TE}(h:PE X e t):PE X e (tFrz t):=by
 intro pins s σ H Q I q
 refine thn (h pins s σ H _ I q) fun v s1 ⟨x,H1,I1,rx,d,u,ex,hd,mu,q1⟩=>?_
 obtain⟨od,I2⟩:=I1.lock hd mu
 exact⟨x,_,I2,rx,q1 od⟩
section
variable{nb:List (List Nat)}{c:Nat→Int}{A:List Nat}
theorem Rp.symm{p o:Nat}(nA:A.Nodup)(hp:p∈A)(r:Rp nb c A p o):Rp nb c A o p:=by
 obtain⟨h,m,e⟩:=r
 obtain⟨i,mi,i1,_⟩:=m.inv (GS.bH nA) (GS.bH nA)
 exact⟨i,mi,by rw[← e];exact i1 p (GS.bz hp)⟩
theorem Rp.trans{p o q:Nat}(r:Rp nb c A p o)(t:Rp nb c A o q):Rp nb c A p q:=by
 obtain⟨h,m,e⟩:=r
 obtain⟨h',m',e'⟩:=t
 exact⟨fun x=>h' (h x),m.comp m',by show h' (h p)=q;rw[e,e']⟩
end
section
abbrev du:Stmt:=top 42
theorem scLeastMoved:ax ["joined","near","parting","points","pieces","least","point","left","other"] ["joined"] (ak du):=fsc
def iE:Sp:=fun vs H Q _=>∃(a:Addr) (m:List (List Nat)) (as:List Addr),vs=[.ref a]∧MatAt H a m as∧Self m∧
 ∀ dd lf H' q,Same H H'→H q=none→GS.Deepest (aI (nb2 m m)) (fun _=>0) dd (List.range m.length) (bU m.length m.length)→(∀ u,u<m.length→lf u<m.length∧Rp (nb2 m m) dd (List.range m.length) u (lf u)∧∀ o,o<lf u→¬ Rp (nb2 m m) dd (List.range m.length) u o)→aJ H' q ((List.range m.length).map lf)→Q (.ref q) H'
theorem mU{f:Addr}{fd:FuncData}(F:Fun K "least_moved_on" "least_moved_on" du f fd)(T:Txt K mg){f1:Addr}{fd1:FuncData}(C1:Cal P w K mg base 3 "side_by_side" ["first","second"] jg f1 fd1){f2:Addr}{fd2:FuncData}(C2:Cal P w K mg base 4 "even_graphs" ["first","second"] cy f2 fd2)
  {f3:Addr} {fd3:FuncData} (C3:Cal P w K mg base 4 "both_pieces" ["near","parting","points","images"] cb f3 fd3) {f4:Addr} {fd4:FuncData} (C4:Cal P w K mg base 1 "images_of" ["near","points"] dh f4 fd4) {f5:Addr} {fd5:FuncData} (C5:Cal P w K mg base 54 "orbit_of" ["near","parting","pieces","point","points"] gI f5 fd5):
  FnOk P w K mg base CX0 55 f fd ["joined"] iE:=by
 refine F.ok scLeastMoved (fun vs H Q E h=>?_) (fun cdv Ar outer s H vs Q E hr h=>?_)
 ·obtain⟨a,m,as,rfl,_⟩:=h
  rfl
 ·obtain⟨a,m,as,rfl,M,S,k⟩:=h
  have nd:=scLeastMoved.nd
  have hu:=cf hr
  have hr3:Room 3 _:=hr.mono (by decide)
  have hr4:Room 4 _:=hr.mono (by decide)
  have hr1:Room 1 _:=hr.mono (by decide)
  refine⟨_,af (ay (i:=1) nd rfl (Or.inl rfl) (aq C1 hr3 (ae (pv 0) (ae (pv 0) ai)))) (af (ay (i:=2) nd rfl (Or.inl rfl) (aq C2 hr4 (ae (pv 0) (ae (pv 0) ai))))
   (af (ay (i:=3) nd rfl (Or.inl rfl) (aV (eg hr.hd) (by rfl) T.list (by decide +kernel) (ae (aV eE (by rfl) T.range (by decide +kernel) (ae (aS (K:=K) rfl T.len (pv 0)) ai)) ai)))
   (af (ay (i:=4) nd rfl (Or.inl rfl) (aq C3 hr4 (ae (pv 1) (ae (pv 2) (ae (pv 3) (ae (aq C4 hr1 (ae (pv 1) (ae (pv 3) ai))) ai))))))
   (af (ay (i:=5) nd rfl (Or.inr rfl) df)
   (af (bC PassesOwn.never rfl (aY (pv 3)) (aA (i:=6) nd rfl (Or.inl rfl))
    (aj (aQ (cI (cG hu (pv 6) (pv 5)))
     (af (dN (i:=7) rfl nd rfl rfl (gJ rfl rfl rfl (by decide +kernel)) (aY (pv 3)) (aM (own:=[("other",8)]) (show bX ["joined","near","parting","points","pieces","least","point","left","other"] (ak du) _ _=true by decide +kernel)) (fun _ _ _ _ _=>aA (i:=8) nd rfl (Or.inl rfl)) (fun _ _ _ _ _=>eM (cI (cG hu (pv 8) (pv 5)))) (fun _ _ _ _ _=>pv 8))
     (aj (bC PassesOwn.never rfl (gF (zT (aq C5 hr (ae (pv 1) (ae (pv 2) (ae (pv 4) (ae (pv 6) (ae (pv 7) ai)))))))) (aA (i:=8) nd rfl (Or.inl rfl)) (aj (cA hu (pv 5) (pv 8) (pv 6) rfl))))) aG)))
   (aj (au (bL rfl nd (aY (pv 3)) (aM (own:=[("point",6)]) (show bX ["joined","near","parting","points","pieces","least","point","left","other"] (ak du) _ _=true by decide +kernel)) (fun _ _ _ _ _=>aA (i:=6) nd rfl (Or.inl rfl)) (fun _ _ _ _ _=>aU) (fun _ _ _ _ _=>a4 hu (pv 5) (pv 6) (fun _ _=>rfl))))))))))
   ,?_⟩
  have l1:=S.sq.len
  have lm:(((as.map V.ref).length:Nat):Int)=((m.length:Nat):Int):=by rw[length_map,M.len]
  refine⟨_,rfl,_,rfl,a,a,m,m,as,as,rfl,M,M,l1,S.sq.row,l1,S.sq.row,fun H1 p1 ps1 s1 hp1 N1=>?_⟩
  refine⟨_,rfl,_,rfl,a,a,m,m,as,as,rfl,M.mono s1,M.mono s1,S.sq,S.sq,S.sides,fun kk no=>absurd (S.even kk) no,fun kk pm st De H2 q2 s2 hq2=>?_⟩
  have s12:=s1.trans s2
  refine⟨_,rfl,a,_,rfl,.inl (SqL.of (s12 _ _ M.lst)),.inl ⟨_,rfl,fun r3 hr3'=>?_⟩⟩
  rw[lm]
  have t3:Same H2 (upd H2 r3 (.rng 0 ((m.length:Nat):Int))):=Same.new hr3'
  refine⟨r3,0,_,rfl,ah,by omega,by omega,by omega,by omega,fun p4 hp4=>?_⟩
  rw[eV]
  have t4:=t3.trans (Same.new (o:= .lst (nums (List.range m.length))) hp4)
  have hp4':aJ (upd (upd H2 r3 (.rng 0 ((m.length:Nat):Int))) p4 (.lst (nums (List.range m.length)))) p4 (List.range m.length):=ah
  generalize (upd (upd H2 r3 (.rng 0 ((m.length:Nat):Int))) p4 (.lst (nums (List.range m.length))))=H4 at t4 hp4'
  have W4:=x9 S ((N1.mono s2).mono t4) (hq2.mono t4) De
  generalize hdd:csN (nb2 m m) kk=c at W4 De
  generalize hAA:List.range m.length=A at W4 hp4'
  have inA:∀ x,x∈A↔x<m.length:=fun x=>by rw[← hAA];exact mem_range
  have L:=W4.lvl
  have lA:=L.lA
  have nA:=GS.bJ L.fair.up1
  obtain⟨OA,OB⟩:=PtsOk.twn W4
  refine⟨_,rfl,_,rfl,_,rfl,_,rfl,_,rfl,p1,p4,nb2 m m,ps1,m.length,A,rfl,L.near,W4.len,hp4',lA,fun H5 q5 s5 hq5 h5=>?_⟩
  refine⟨p1,q2,p4,q5,nb2 m m,ps1,A++A.map (· +m.length),A,A.map (· +m.length),c,rfl,L.near.mono s5,L.part.mono s5,s5 _ _ hp4',h5,OA,OB,L.fair,fun H6 g ks ad s6 hg G=>?_⟩
  have W6:=(W4.mono s5).mono s6
  have hp6:aJ H6 p4 A:=s6 _ _ (s5 _ _ hp4')
  have s06:=(((s12.trans t4).trans s5).trans s6)
  intro le hle
  have nle:H le=none:=s06.free hle
  have s7:Same H6 (upd H6 le (.dK [])):=Same.new hle
  refine⟨_,rfl,p4,rfl,⟨_,SqL.of (s7 _ _ hp6)⟩,bN (aN (K:=K) (SqL.of hp6)) (fun i σ H'=>∃(v6 v7 v8:Option V) (kz:List Nat) (lf:Nat→Nat),σ=[some (.ref a),some (.ref p1),some (.ref q2),some (.ref p4),some (.ref g),some (.ref le),v6,v7,v8]∧Same H6 H'∧H' le=some (.dK (dct kz fun x=>V.int ((lf x:Nat):Int)))∧kz.Nodup∧(∀ x∈kz,x∈A∧lf x∈A∧Rp (nb2 m m) c A (lf x) x∧∀ q∈A,q<lf x→¬ Rp (nb2 m m) c A q x)∧(∀ x∈kz,∀ y∈A,Rp (nb2 m m) c A x y→y∈kz)∧∀ p∈A.take i,p∈kz)
   ⟨none,none,none,[],fun _=>0,rfl,s7,ah,nodup_nil,fun x hx=>(by cases hx),fun x hx=>(by cases hx),fun p hp=>by simp at hp⟩ (fun i σ H' ⟨_,_,_,_,_,_,s,_⟩=>s) calm_list.mono ?_ ?_⟩
  ·rintro i x σ H' hi ⟨v6,v7,v8,kz,lf,rfl,sH,hF,nk,ck,cl,dn⟩ hx
   obtain⟨p,hp,hpA,rfl⟩:=bc hx
   have tk:=a6 hp
   refine⟨_,rfl,_,rfl,le,_,rfl,DGet.k (k:=Sum.inl ((p:Nat):Int)) hF,_,rfl,?_⟩
   rw[cg]
   refine aK (fun hc=>?_) (fun hc=>?_)
   ·have hno:p∉kz:=by simpa using hc
    have hp':=sH _ _ hp6
    refine⟨_,rfl,p4,rfl,⟨_,SqL.of hp'⟩,fun D hD=>?_⟩
    refine fi hD (aN (SqL.of hp')) (Same.refl _) (fun i=> !decide (A.getD i 0∈kz)) (fun i=>V.int ((A.getD i 0:Nat):Int)) (by rw[length_map];omega) ?_ ?_
    ·intro i' x H8 C Nx hi' t8 hx' yes no
     obtain⟨u,hu',huA,rfl⟩:=bc hx'
     have eu:A.getD i' 0=u:=by rw[getD_eq_getElem?_getD,hu'];rfl
     rw[eu]at yes no
     refine⟨rfl,_,rfl,_,rfl,le,_,rfl,DGet.k (k:=Sum.inl ((u:Nat):Int)) (t8 _ _ hF),_,rfl,?_⟩
     rw[cg]
     refine aK (fun hc6=>?_) (fun hc6=>?_)
     ·exact⟨_,rfl,yes hc6 H8 (Same.refl _)⟩
     ·exact no (by simpa using hc6) H8 (Same.refl _)
    ·intro H8 t8 hA8
     rw[length_map,eD A (fun x=> !decide (x∈kz))]at hA8
     have mL:∀ o,o∈A.filter (fun x=> !decide (x∈kz))↔o∈A∧o∉kz:=fun o=>by rw[mem_filter];simp
     have off:∀ o∈A,Rp (nb2 m m) c A p o→o∉kz:=fun o ho r z=>hno (cl o z p hpA (r.symm nA hpA))
     have sH8:=sH.trans t8
     refine⟨_,rfl,_,rfl,_,rfl,_,rfl,_,rfl,p1,q2,g,D,nb2 m m,ps1,m.length,A,c,ks,ad,p,A.filter (fun x=> !decide (x∈kz)),rfl,W6.lvl.mono sH8,W6.len,W6.twin,G.mono sH8,hA8,filter_sublist,(mL p).mpr ⟨hpA,hno⟩,fun o ho _ x hx r=>(mL x).mpr ⟨GS.bg hx,off x (GS.bg hx) r⟩,fun H9 q9 os t9 hq9 h9 n9 m9=>?_⟩
     have mo:∀ o,o∈os↔o∈A∧Rp (nb2 m m) c A p o:=fun o=>by
      rw[m9 o,mL o]
      exact⟨fun z=>⟨z.1.1,z.2⟩,fun z=>⟨⟨z.1,off o z.1 z.2⟩,z.2⟩⟩
     refine⟨q9,_,rfl,h9,True.intro,fun od=>⟨q9,od,rfl,.inl ⟨_,ah,?_⟩⟩⟩
     have hF9:=t9 _ _ (t8 _ _ hF)
     have qle:q9≠le:=fun z=>by rw[z,t8 _ _ hF]at hq9;cases hq9
     have nH6:H6 q9=none:=sH8.free hq9
     let lf':Nat→Nat:=fun y=>if y∈os then p else lf y
     have lfo:∀ y∈os,lf' y=p:=fun y hy=>if_pos hy
     have lfk:∀ y∈kz,lf' y=lf y:=fun y hy=>if_neg fun z=>off y ((mo y).mp z).1 ((mo y).mp z).2 hy
     have lo:os.length≤A.length:=GS.aW n9 fun o ho=>((mo o).mp ho).1
     have lk':kz.length≤A.length:=GS.aW nk fun o ho=>(ck o ho).1
     refine bN (gE (H:=upd H6 q9 (.frz od (bB os))) ah) (fun j σ H'=>∃ v8:Option V,σ=[some (.ref a),some (.ref p1),some (.ref q2),some (.ref p4),some (.ref g),some (.ref le),some (.int ((p:Nat):Int)),some (.ref D),v8]∧Same (upd H6 q9 (.frz od (bB os))) H'∧H' le=some (.dK (dct (kz++os.take j) fun x=>V.int ((lf' x:Nat):Int))))
      ⟨v8,rfl,fun x o e=>?_,?_⟩ (fun j σ H' ⟨_,_,s,_⟩=>s) calm_keys.mono ?_ ?_
     ·by_cases hx:x=q9
      ·rw[hx]at e ⊢
       rw[ah]at e ⊢
       exact e
      ·rw[ao hx]at e ⊢
       exact t9 _ _ (sH8 _ _ e)
     ·rw[ao qle.symm,hF9,List.take_zero,append_nil]
      congr 2
      exact dX fun y hy=>by rw[lfk y hy]
     ·rintro j y σ H10 hj ⟨u8,rfl,t10,hF10⟩ ⟨key,v,hkv,rfl⟩
      obtain⟨o,ho,ekv⟩:=aX hkv
      cases ekv
      have hoO:=mem_of_getElem? ho
      have hon:o∉kz++os.take j:=fun z=>by
       rcases mem_append.mp z with z|z
       ·exact off o ((mo o).mp hoO).1 ((mo o).mp hoO).2 z
       ·obtain⟨j',hj',e⟩:=mem_take_iff_getElem.mp z
        have:=vg n9 (i:=j') (j:=j) (by rw[List.getElem?_eq_getElem (by omega),e]) ho
        omega
      refine⟨_,rfl,_,rfl,_,rfl,le,_,rfl,DPut.k (k:=Sum.inl ((o:Nat):Int)) hF10 ?_,_,rfl,t10.put (by rw[ao qle.symm];exact hle),?_⟩
      ·rw[aT,length_append,length_take]
       exact aC (by omega)
      ·have e:=cT (f:=fun x=>V.int ((lf' x:Nat):Int)) hon
       rw[show(V.int ((p:Nat):Int):V)=(fun x=>V.int ((lf' x:Nat):Int)) o by show V.int ((p:Nat):Int)=V.int ((lf' o:Nat):Int);rw[lfo o hoO],ah,e,append_assoc,← a6 ho]
     ·rintro σ H10 ⟨u8,rfl,t10,hF10⟩
      rw[aT,take_length]at hF10
      refine⟨_,_,_,kz++os,lf',rfl,fun x o e=>t10 _ _ (by rw[ao (aL e nH6)];exact e),hF10,nodup_append.mpr ⟨nk,n9,fun y hy z hz e=>off z ((mo z).mp hz).1 ((mo z).mp hz).2 (e▸hy)⟩,fun y hy=>?_,fun y hy z hz r=>?_,fun q hq=>?_⟩
      ·rcases mem_append.mp hy with hy|hy
       ·rw[lfk y hy]
        exact ck y hy
       ·rw[lfo y hy]
        obtain⟨yA,ry⟩:=(mo y).mp hy
        refine⟨yA,hpA,ry,fun q hq hlt rq=>?_⟩
        have hqk:=dn q (GS.oT L.fair.up1 hp hq hlt)
        exact off y yA ry (cl q hqk y yA rq)
      ·rcases mem_append.mp hy with hy|hy
       ·exact mem_append_left _ (cl y hy z hz r)
       ·exact mem_append_right _ ((mo z).mpr ⟨hz,((mo y).mp hy).2.trans r⟩)
      ·rw[tk]at hq
       rcases mem_append.mp hq with hq|hq
       ·exact mem_append_left _ (dn q hq)
       ·have:q=p:=by simpa using hq
        rw[this]
        exact mem_append_right _ ((mo p).mpr ⟨hpA,Rp.refl⟩)
   ·have hin:p∈kz:=by simpa using hc
    refine⟨_,_,_,kz,lf,rfl,sH,hF,nk,ck,cl,fun q hq=>?_⟩
    rw[tk]at hq
    rcases mem_append.mp hq with hq|hq
    ·exact dn q hq
    ·have:q=p:=by simpa using hq
     rw[this]
     exact hin
  ·rintro σ H' ⟨v6,v7,v8,kz,lf,rfl,sH,hF,nk,ck,cl,dn⟩
   rw[length_map,take_length]at dn
   have hp':=sH _ _ hp6
   refine⟨_,rfl,p4,rfl,⟨_,SqL.of hp'⟩,fun D hD=>?_⟩
   refine bA hD (aN (SqL.of hp')) (Same.refl _) (fun i=>V.int ((lf (A.getD i 0):Nat):Int)) (by rw[length_map];omega) ?_ ?_
   ·intro i' x H8 C Nx hi' t8 hx' cont
    obtain⟨u,hu',huA,rfl⟩:=bc hx'
    have eu:A.getD i' 0=u:=by rw[getD_eq_getElem?_getD,hu'];rfl
    rw[eu]at cont
    have dg:=DGet.k (k:=Sum.inl ((u:Nat):Int)) (t8 _ _ hF)
    rw[bQ,if_pos (dn u huA)]at dg
    exact⟨rfl,lcY ⟨_,rfl,_,rfl,le,_,rfl,dg,cont H8 (Same.refl _)⟩⟩
   ·intro H8 t8 hA8
    have s8:=(s06.trans sH).trans t8
    refine k c lf H8 D s8 ((s06.trans sH).free hD) (by rw[← hdd];exact hdd▸De) (fun u hu'=>?_) ?_
    ·have huA:=(inA u).mpr hu'
     obtain⟨_,c2,c3,c4⟩:=ck u (dn u huA)
     rw[hAA]
     exact⟨(inA _).mp c2,c3.symm nA c2,fun o ho r=>c4 o ((inA o).mpr (by have:=(inA _).mp c2;omega)) ho (r.symm nA huA)⟩
    ·show H8 D=_
     rw[hA8,length_map,bY A 0 (fun x=>V.int ((lf x:Nat):Int)),hAA]
     unfold nums
     rw[map_map]
     rfl
end
abbrev LIM:Nat:=18446744073709551616
def dot(x y:List Nat):Nat:=((x.zip y).map fun z=>z.1*z.2).sum
theorem zG{X:Cx}{K:Frag}(hK:X.K=K){es:List Expr}{k:Nat}{t:TGs}{n:Nat}{pos:Pos}(hc:X.calm=true)(h:PGs X es t)(hn:(assignEach es X.env).length=n:=by rfl)(hst:(assignEach es X.env).findIdx? (·.1)=none:=by rfl):PG X (.Tuple es k pos) (gTup K n t):=by
 subst hK
 exact zW hc h hn hst
theorem gD(l:List Nat):(l.map fun x=>((x:Nat):Int)).sum=((l.sum:Nat):Int):=by
 induction l with
 |nil=>rfl
 |cons a l ih=>rw[map_cons,sum_cons,sum_cons,ih];omega
theorem mJ(l:List Nat):nums l=(l.map fun x=>((x:Nat):Int)).map V.int:=by
 unfold nums
 rw[map_map]
 rfl
section
theorem vf{x y:List Nat}{i:Nat}{u v:V}(hu:(nums x)[i]?=some u)(hv:(nums y)[i]?=some v):∃ p q,x[i]?=some p∧y[i]?=some q∧u= .int (p:Nat)∧v= .int (q:Nat):=by
 obtain⟨p,hp,rfl⟩:=aX hu
 obtain⟨q,hq,rfl⟩:=aX hv
 exact⟨p,q,hp,hq,rfl,rfl⟩
theorem zip_map(x y:List Nat)(hl:x.length=y.length)(f:Nat→Nat→Nat):(List.range x.length).map (fun i=>f (x.getD i 0) (y.getD i 0))=(x.zip y).map fun z=>f z.1 z.2:=by
 refine ext_getElem? fun i=>?_
 rw[List.getElem?_map,List.getElem?_map]
 by_cases h:i<x.length
 ·have h2:i<y.length:=by omega
  rw[List.getElem?_range h,List.getElem?_eq_getElem (by rw[List.length_zip];omega),List.getElem_zip]
  simp[getD_eq_getElem?_getD,h,h2]
 ·rw[List.getElem?_eq_none (by simpa using h),List.getElem?_eq_none (by rw[List.length_zip];omega)]
  rfl
abbrev l6:Stmt:=top 45
theorem scSumProd:ax ["row","other","one","two"] ["row","other"] (ak l6):=fsc
def n6:Sp:=fun vs H Q _=>∃(a b:Addr) (x y:List Nat),vs=[.ref a,.ref b]∧aJ H a x∧aJ H b y∧x.length=y.length∧x.length≤16∧(∀ v∈x,v<2 ^ 64)∧∀ H',Same H H'→Q (.int ((dot x y % LIM:Nat):Int)) H'
theorem uo{f:Addr}{fd:FuncData}(F:Fun K "sum_of_products" "sum_of_products" l6 f fd)(T:Txt K mg):FnOk P w K mg base CX0 1 f fd ["row","other"] n6:=by
 refine F.ok scSumProd (fun vs H Q E h=>?_) (fun cdv Ar outer s H vs Q E hr h=>?_)
 ·obtain⟨a,b,x,y,rfl,_⟩:=h
  rfl
 ·obtain⟨a,b,x,y,rfl,hx,hy,hl,l16,lt,k⟩:=h
  have nd:=scSumProd.nd
  obtain⟨tl,hlim⟩:=T.limit
  refine⟨_,aj (au (a0 jl (bx (o3 rfl) (by rfl) T.sum (by decide +kernel) (ae (bL rfl nd (xl rfl T.zip (ae (pv 0) (ae (pv 1) ai))) (aM (own:=[("one",2),("two",3)]) (show bX ["row","other","one","two"] (ak l6) _ _=true by decide +kernel))
   (fun _ _ _ _ _=>zG (K:=K) (n:=2) rfl rfl (il (aA (i:=2) nd rfl (Or.inl rfl)) (il (aA (i:=3) nd rfl (Or.inl rfl)) uY))) (fun _ _ _ _ _=>aU) (fun _ _ _ _ _=>a0 jb (pv 2) (pv 3))) ai)) (aD (v:= .int 18446744073709551616) rfl hlim ⟨tl,rfl⟩))),?_⟩
  refine⟨_,rfl,_,rfl,a,b,_,_,rfl,SqL.of hx,SqL.of hy,fun D hD=>?_⟩
  refine bA hD (sI (SqL.of hx) (SqL.of hy) (by rw[length_map,length_map,hl])) (Same.refl _) (fun i=>V.int ((x.getD i 0*y.getD i 0:Nat):Int)) (by rw[length_map];omega) ?_ ?_
  ·rintro i z H' C Nx hi sH ⟨Tp,u,v,rfl,hT,hu,hv⟩ cont
   obtain⟨p,q,hp,hq,rfl,rfl⟩:=vf hu hv
   have ep:x.getD i 0=p:=by rw[getD_eq_getElem?_getD,hp];rfl
   have eq:y.getD i 0=q:=by rw[getD_eq_getElem?_getD,hq];rfl
   have hlt:=lt p (mem_of_getElem? hp)
   rw[ep,eq,Int.natCast_mul]at cont
   exact⟨Tp,_,rfl,SqT.of hT,rfl,_,_,rfl,_,_,rfl,rfl,rfl,lcY ⟨_,rfl,_,rfl,_,_,rfl,rfl,.inl ⟨by omega,by omega⟩,cont H' (Same.refl _)⟩⟩
  ·intro H' sH hA
   have eA:(List.range (nums x).length).map (fun i=>V.int ((x.getD i 0*y.getD i 0:Nat):Int))=(((x.zip y).map fun z=>z.1*z.2).map fun x=>((x:Nat):Int)).map V.int:=by
    rw[length_map,← zip_map x y hl (fun a b=>a*b),map_map,map_map]
    rfl
   rw[eA]at hA
   refine⟨D,_,rfl,SqL.of hA,_,_,rfl,rfl,(by show(0:Int)<18446744073709551616;decide),?_⟩
   rw[gD]
   have:=k H' sH
   rw[Int.natCast_emod]at this
   exact this
abbrev gV:Stmt:=top 46
theorem scRowsTimes:ax ["rows","row","each"] ["rows","row"] (ak gV):=fsc
def qO(m:List (List Nat))(n:Nat):Prop:=m.length≤16∧∀ r∈m,r.length=n∧∀ v∈r,v<2 ^ 64
def fZ:Sp:=fun vs H Q _=>∃(a b:Addr) (m:List (List Nat)) (as:List Addr) (y:List Nat),vs=[.ref a,.ref b]∧MatAt H a m as∧aJ H b y∧qO m y.length∧y.length≤16∧∀ H' q,Same H H'→H q=none→aJ H' q (m.map fun r=>dot r y % LIM)→Q (.ref q) H'
theorem pF{f:Addr}{fd:FuncData}(F:Fun K "rows_times" "rows_times" gV f fd){f1:Addr}{fd1:FuncData}(C1:Cal P w K mg base 1 "sum_of_products" ["row","other"] n6 f1 fd1):FnOk P w K mg base CX0 2 f fd ["rows","row"] fZ:=by
 refine F.ok scRowsTimes (fun vs H Q E h=>?_) (fun cdv Ar outer s H vs Q E hr h=>?_)
 ·obtain⟨a,b,m,as,y,rfl,_⟩:=h
  rfl
 ·obtain⟨a,b,m,as,y,rfl,M,hy,sm,l16,k⟩:=h
  have nd:=scRowsTimes.nd
  refine⟨_,aj (au (bL rfl nd (aY (pv 0)) (aM (own:=[("each",2)]) (show bX ["rows","row","each"] (ak gV) _ _=true by decide +kernel)) (fun _ _ _ _ _=>aA (i:=2) nd rfl (Or.inl rfl)) (fun _ _ _ _ _=>aU) (fun _ _ _ _ _=>aq C1 hr (ae (pv 2) (ae (pv 1) ai))))),?_⟩
  refine⟨_,rfl,a,rfl,⟨_,SqL.of M.lst⟩,fun D hD=>?_⟩
  refine bA hD (aN (SqL.of M.lst)) (Same.refl _) (fun i=>V.int ((dot (m.getD i []) y % LIM:Nat):Int)) (by rw[length_map,M.len];have:=sm.1;omega) ?_ ?_
  ·intro i x H' C Nx hi sH hx cont
   obtain⟨r,hr',rfl⟩:=aX hx
   have him:i<m.length:=by rw[← M.len];simpa using hi
   have e:m.getD i []=m[i]:=by simp[getD_eq_getElem?_getD,him]
   rw[e]at cont
   obtain⟨s1,s2⟩:=sm.2 _ (getElem_mem him)
   exact⟨rfl,lcY ⟨_,rfl,_,rfl,r,b,m[i],y,rfl,sH _ _ (M.row i r m[i] hr' (List.getElem?_eq_getElem him)),sH _ _ hy,s1,by omega,s2,fun H4 s4=>cont H4 s4⟩⟩
  ·intro H' sH hA
   refine k H' D sH hD ?_
   show H' D=_
   rw[hA,length_map,M.len,bY m [] (fun r=>V.int ((dot r y % LIM:Nat):Int))]
   unfold nums
   rw[map_map]
   rfl
abbrev fD:Stmt:=top 47
theorem scWaysJoined:ax ["first","second","row"] ["first","second"] (ak fD):=fsc
def fe:Sp:=fun vs H Q _=>∃(a b:Addr) (m m2:List (List Nat)) (as bs:List Addr) (n:Nat),vs=[.ref a,.ref b]∧MatAt H a m as∧MatAt H b m2 bs∧n≤16∧qO m n∧qO m2 n∧∀ H' q qs,Same H H'→H q=none→MatAt H' q (m.map fun row=>m2.map fun r=>dot r row % LIM) qs→Q (.ref q) H'
theorem AG{H':Hp}{D:Addr}{ys:List V}{m:List (List Nat)}(h:H' D=some (.lst ys))(hl:ys.length=m.length)(R:∀(i:Nat) (y:V),ys[i]?=some y→∃ p r,y= .ref p∧m[i]?=some r∧aJ H' p r):∃ ps,MatAt H' D m ps:=by
 have hx:∀ i,∃ p,i<ys.length→ys[i]?=some (.ref p)∧∀ r,m[i]?=some r→aJ H' p r:=fun i=>by
  by_cases hi:i<ys.length
  ·obtain⟨p,r,e,h1,h2⟩:=R i ys[i] (List.getElem?_eq_getElem hi)
   exact⟨p,fun _=>⟨by rw[List.getElem?_eq_getElem hi,e],fun r' h'=>by rw[h1]at h';cases h';exact h2⟩⟩
  ·exact⟨0,fun z=>absurd z hi⟩
 let t:Nat→Addr:=fun i=>Classical.choose (hx i)
 have ht:=fun i=>Classical.choose_spec (hx i)
 refine⟨(List.range ys.length).map t,?_,by simp[hl],fun i b r h1 h2=>?_⟩
 ·rw[h]
  congr 2
  refine ext_getElem? fun i=>?_
  by_cases hi:i<ys.length
  ·rw[(ht i hi).1,map_map,List.getElem?_map,List.getElem?_range hi]
   rfl
  ·rw[List.getElem?_eq_none (by omega),List.getElem?_eq_none (by simp;omega)]
 ·obtain⟨j,hj,rfl⟩:=aX h1
  obtain⟨hb,hg⟩:=List.getElem?_eq_some_iff.mp hj
  rw[List.getElem_range]at hg
  subst hg
  exact(ht i (by simpa using hb)).2 r h2
theorem pI{J:It}{H0 H1:Hp}{D:Addr}(hD:H1 D=none){n:Nat}{xv:Nat→V→Hp→Prop}(O:iM J H0 n xv)(s01:Same H0 H1){g:TG}{te:TE}{vs:List Nat}{σ:L2.St}{Qd:Hp→Prop}(m:List (List Nat))(hm:m.length=n)(hn:n≤1000)
  (hs:∀(i:Nat) (x:V) (H':Hp) (C:VK) (N:Hp→Prop) (r:List Nat),i<n→m[i]?=some r→Same H1 H'→xv i x H'→(∀ p H4,Same H' H4→H' p=none→aJ H4 p r→C (.ref p) H4)→g x (wipe σ vs) H' fun σ2 H2=>wipe σ2 vs=wipe σ vs∧jX σ2 H2 fun b H3=>if b=true then te σ2 H3 C else N H3)
  (hd:∀ H' ps,Same H1 H'→MatAt H' D m ps→Qd H'):
  ∃ W:Nat→Nat→Hp→Prop,(∃ m,W 0 m (upd H1 D (.lst [])))∧∀ i m H,W i m H→
   (J.stop i H∧Qd H)∨(J.go i H∧∃ Nx:Hp→Prop,(∀ H',Nx H'→∃ m',m'<m∧W (i+1) m' H')∧∀ x H',J.yld i H x H'→g x (wipe σ vs) H' fun σ2 H2=>wipe σ2 vs=wipe σ vs∧jX σ2 H2 fun b H3=>
    if b=true then te σ2 H3 fun y H4=>∃ acc,H4 D=some (.lst acc)∧acc.length<sizeLine∧Nx (upd H4 D (.lst (acc++[y])))else Nx H3):=by
 refine kF hD O s01 (fun i y H'=>∃ p r,y= .ref p∧p≠D∧m[i]?=some r∧aJ H' p r) hn (fun i y H1 H2 b ⟨p,r,e1,e2,e3,e4⟩=>⟨p,r,e1,e2,e3,b _ _ e2 e4⟩) (fun i x H' C N hi sH hDn hx cont=>?_) fun H' ys sH hA hl hR=>?_
 ·have him:i<m.length:=by omega
  exact hs i x H' C N m[i] hi (List.getElem?_eq_getElem him) sH hx fun p H4 s4 hp h4=>cont _ H4 s4 ⟨p,m[i],rfl,fun z=>hDn (z▸hp),List.getElem?_eq_getElem him,h4⟩
 ·obtain⟨ps,MA⟩:=AG (m:=m) hA (by omega) fun i y hy=>by
   obtain⟨p,r,e1,_,e3,e4⟩:=hR i y hy
   exact⟨p,r,e1,e3,e4⟩
  exact hd H' ps sH MA
theorem mZ{f:Addr}{fd:FuncData}(F:Fun K "ways_joined" "ways_joined" fD f fd){f1:Addr}{fd1:FuncData}(C1:Cal P w K mg base 2 "rows_times" ["rows","row"] fZ f1 fd1):FnOk P w K mg base CX0 3 f fd ["first","second"] fe:=by
 refine F.ok scWaysJoined (fun vs H Q E h=>?_) (fun cdv Ar outer s H vs Q E hr h=>?_)
 ·obtain⟨a,b,m,m2,as,bs,n,rfl,_⟩:=h
  rfl
 ·obtain⟨a,b,m,m2,as,bs,n,rfl,M,M2,hn,sm,sm2,k⟩:=h
  have nd:=scWaysJoined.nd
  refine⟨_,aj (au (bL rfl nd (aY (pv 0)) (aM (own:=[("row",2)]) (show bX ["first","second","row"] (ak fD) _ _=true by decide +kernel)) (fun _ _ _ _ _=>aA (i:=2) nd rfl (Or.inl rfl)) (fun _ _ _ _ _=>aU) (fun _ _ _ _ _=>aq C1 hr (ae (pv 1) (ae (pv 2) ai))))),?_⟩
  refine⟨_,rfl,a,rfl,⟨_,SqL.of M.lst⟩,fun D hD=>?_⟩
  refine pI hD (aN (SqL.of M.lst)) (Same.refl _) (m.map fun row=>m2.map fun r=>dot r row % LIM) (by rw[length_map,length_map,M.len]) (by rw[length_map,M.len];have:=sm.1;omega) ?_ (fun H' ps sH MA=>k H' D ps sH hD MA)
  intro i x H' C Nx r hi hr' sH hx cont
  obtain⟨q,hq,rfl⟩:=aX hx
  obtain⟨row,hrow,rfl⟩:=aX hr'
  obtain⟨s1,s2⟩:=sm.2 _ (mem_of_getElem? hrow)
  exact⟨rfl,lcY ⟨_,rfl,_,rfl,b,q,m2,bs,row,rfl,M2.mono sH,sH _ _ (M.row i q row hq hrow),by rw[s1];exact sm2,by omega,fun H4 p s4 hp h4=>cont p H4 s4 hp h4⟩⟩
end
def mat(n:Nat)(f:Nat→Nat→Nat):List (List Nat):=(List.range n).map fun u=>(List.range n).map (f u)
theorem aE(n:Nat)(f:Nat→Nat→Nat):(mat n f).length=n:=by simp[mat]
theorem bM{n:Nat}{f:Nat→Nat→Nat}{u:Nat}(h:u<n):(mat n f)[u]?=some ((List.range n).map (f u)):=by
 unfold mat
 rw[List.getElem?_map,List.getElem?_range h]
 rfl
theorem nG{n:Nat}{f g:Nat→Nat→Nat}(h:∀ u v,u<n→v<n→f u v=g u v):mat n f=mat n g:=
 map_congr_left fun u hu=>map_congr_left fun v hv=>h u v (mem_range.mp hu) (mem_range.mp hv)
theorem ow{n:Nat}{f:Nat→Nat→Nat}(hn:n≤16)(h:∀ u v,u<n→v<n→f u v<2 ^ 64):qO (mat n f) n:=by
 refine⟨by rw[aE];exact hn,fun r hr=>?_⟩
 obtain⟨u,hu,rfl⟩:=mem_map.mp hr
 refine⟨by simp,fun v hv=>?_⟩
 obtain⟨t,ht,rfl⟩:=mem_map.mp hv
 exact h u t (mem_range.mp hu) (mem_range.mp ht)
theorem oa(n:Nat)(g h:Nat→Nat):dot ((List.range n).map g) ((List.range n).map h)=GS.S n fun t=>g t*h t:=by
 unfold dot GS.S
 rw[List.zip_map,map_map,List.zip_eq_zipWith]
 congr 1
 induction List.range n with
 |nil=>rfl
 |cons a l ih=>simp only[List.zipWith_cons_cons,map_cons,ih];rfl
theorem tm(n:Nat)(f g:Nat→Nat→Nat):((mat n f).map fun row=>(mat n g).map fun r=>dot r row % LIM)=mat n fun u v=>(GS.S n fun t=>g v t*f u t) % LIM:=by
 unfold mat
 rw[map_map]
 refine map_congr_left fun u _=>?_
 show((List.range n).map fun v=>(List.range n).map (g v)).map (fun r=>dot r ((List.range n).map (f u)) % LIM)=_
 rw[map_map]
 refine map_congr_left fun v _=>?_
 show dot ((List.range n).map (g v)) ((List.range n).map (f u)) % LIM=_
 rw[oa]
noncomputable abbrev WM(G:Rc81.Graph)(k:Nat):List (List Nat):=mat G.n fun u v=>GS.W G k u v % LIM
theorem AI(G:Rc81.Graph)(u v:Nat):GS.E G u v≤1:=by unfold GS.E;split<;>omega
theorem Aw(G:Rc81.Graph):mat G.n (GS.E G)=WM G 1:=nG fun u v hu hv=>by
 have:=AI G u v
 rw[GS.zQ G hu,Nat.mod_eq_of_lt (by show GS.E G u v<18446744073709551616;omega)]
theorem rL(G:Rc81.Graph)(hn:G.n≤16)(k:Nat):qO (WM G k) G.n:=ow hn fun u v _ _=>Nat.mod_lt _ (by decide)
section
abbrev jk:Stmt:=top 48
theorem scWaysNone:ax ["n","point","other"] ["n","point"] (ak jk):=fsc
def lW:Sp:=fun vs H Q _=>∃(n p:Nat),vs=[.int (n:Nat),.int (p:Nat)]∧n≤16∧∀ H' q,Same H H'→H q=none→aJ H' q ((List.range n).map fun o=>if p=o then 1 else 0)→Q (.ref q) H'
theorem rQ{f:Addr}{fd:FuncData}(F:Fun K "ways_of_none" "ways_of_none" jk f fd)(T:Txt K mg):FnOk P w K mg base CX0 1 f fd ["n","point"] lW:=by
 refine F.ok scWaysNone (fun vs H Q E h=>?_) (fun cdv Ar outer s H vs Q E hr h=>?_)
 ·obtain⟨n,p,rfl,_⟩:=h
  rfl
 ·obtain⟨n,p,rfl,hn,k⟩:=h
  have nd:=scWaysNone.nd
  refine⟨_,aj (au (bL rfl nd (a5 rfl T.range (ae (pv 0) ai)) (aM (own:=[("other",2)]) (show bX ["n","point","other"] (ak jk) _ _=true by decide +kernel)) (fun _ _ _ _ _=>aA (i:=2) nd rfl (Or.inl rfl)) (fun _ _ _ _ _=>aU) (fun _ _ _ _ _=>fw (aH bE (pv 2) (pv 1) (nomark _)) az az))),?_⟩
  refine⟨_,rfl,_,rfl,by omega,by omega,fun D hD=>?_⟩
  refine bA hD (bR 0 _) (Same.refl _) (fun i=>V.int ((if p=i then 1 else 0:Nat):Int)) (by rw[show((n:Nat):Int).toNat=n by omega];omega) ?_ ?_
  ·intro i x H' C Nx hi sH hx cont
   subst hx
   have ei:(0:Int)+(i:Nat)=((i:Nat):Int):=by omega
   refine⟨rfl,lcY ⟨_,rfl,_,rfl,rfl,_,rfl,?_⟩⟩
   have cc:=cont H' (Same.refl _)
   refine aK (fun hc=>?_) (fun hc=>?_)
   ·have:p=i:=by have:=V.int.inj (of_decide_eq_true hc);omega
    rw[if_pos this]at cc
    exact cc
   ·have:¬ p=i:=fun z=>hc (by rw[ei,z];simp)
    rw[if_neg this]at cc
    exact cc
  ·intro H' sH hA
   refine k H' D sH hD ?_
   show H' D=_
   rw[hA,show((n:Nat):Int).toNat=n by omega]
   unfold nums
   rw[map_map]
   rfl
abbrev ja:Stmt:=top 49
theorem scWaysOver:ax ["joined","k","n","found","doubled","point"] ["joined","k"] (ak ja):=fsc
abbrev GrAt(H:Hp)(a:Addr)(G:Rc81.Graph)(as:List Addr):Prop:=MatAt H a (mat G.n (GS.E G)) as
def ic:Sp:=fun vs H Q _=>∃(a:Addr) (G:Rc81.Graph) (as:List Addr) (k:Nat),vs=[.ref a,.int (k:Nat)]∧GrAt H a G as∧Rc81.Fine G∧G.n≤16∧k≤64∧∀ H' q qs,Same H H'→MatAt H' q (WM G k) qs→Q (.ref q) H'
theorem su{f:Addr}{fd:FuncData}(F:Fun K "ways_over" "ways_over" ja f fd)(T:Txt K mg){f1:Addr}{fd1:FuncData}(C1:Cal P w K mg base 1 "ways_of_none" ["n","point"] lW f1 fd1){f2:Addr}{fd2:FuncData}(C2:Cal P w K mg base 3 "ways_joined" ["first","second"] fe f2 fd2):
  FnOk P w K mg base CX0 4 f fd ["joined","k"] ic:=by
 refine F.ok scWaysOver (fun vs H Q E h=>?_) (fun cdv Ar outer s H vs Q E hr h=>?_)
 ·obtain⟨a,G,as,k,rfl,_⟩:=h
  rfl
 ·obtain⟨a,G,as,k0,rfl,M,fG,n16,k64,kk⟩:=h
  have nd:=scWaysOver.nd
  have hr1:Room 1 _:=hr.mono (by decide)
  refine⟨_,af (ay (i:=2) nd rfl (Or.inr rfl) (aS (K:=K) rfl T.len (pv 0)))
   (af (dN (i:=3) rfl nd rfl rfl (gJ rfl rfl rfl (by decide +kernel)) (a5 rfl T.range (ae (pv 2) ai)) (aM (own:=[("point",5)]) (show bX ["joined","k","n","found","doubled","point"] (ak ja) _ _=true by decide +kernel)) (fun _ _ _ _ _=>aA (i:=5) nd rfl (Or.inl rfl)) (fun _ _ _ _ _=>aU) (fun _ _ _ _ _=>aq C1 hr1 (ae (pv 2) (ae (pv 5) ai))))
   (af (ay (i:=4) nd rfl (Or.inl rfl) (pv 0))
   (af (dR PassesOwn.never (aH oe (pv 1) az (nomark _))
    (af (aQ (aH bE (a0 jl (pv 1) az) az (nomark _)) (aj (ay (i:=3) nd rfl (Or.inl rfl) (aq C2 hr (ae (pv 3) (ae (pv 4) ai))))) aG)
    (af (ay (i:=4) nd rfl (Or.inl rfl) (aq C2 hr (ae (pv 4) (ae (pv 4) ai)))) (aj (ay (i:=1) nd rfl (Or.inl rfl) (a0 iL (pv 1) az))))))
   (aj (au (pv 3)))))),?_⟩
  have lm:(((as.map V.ref).length:Nat):Int)=((G.n:Nat):Int):=by rw[length_map,M.len,aE]
  refine⟨_,rfl,a,_,rfl,.inl (SqL.of M.lst),?_⟩
  rw[lm]
  refine⟨_,rfl,_,rfl,by omega,by omega,fun D hD=>?_⟩
  refine pI hD (bR 0 _) (Same.refl _) (WM G 0) (by rw[aE];omega) (by rw[show((G.n:Nat):Int).toNat=G.n by omega];omega) ?_ ?_
  ·intro i x H' C Nx r hi hr' sH hx cont
   subst hx
   have hi':i<G.n:=by rw[show((G.n:Nat):Int).toNat=G.n by omega]at hi;exact hi
   rw[bM hi']at hr'
   cases hr'
   have ei:(0:Int)+(i:Nat)=((i:Nat):Int):=by omega
   refine⟨rfl,lcY ⟨_,rfl,_,rfl,G.n,i,by show [V.int _,V.int (0+(i:Int))]=_;rw[ei],n16,fun H4 p s4 hp h4=>cont p H4 s4 hp ?_⟩⟩
   have e:((List.range G.n).map fun v=>GS.W G 0 i v % LIM)=(List.range G.n).map fun o=>if i=o then 1 else 0:=map_congr_left fun v _=>by
    show(if i=v then 1 else 0) % LIM=_
    split<;>rfl
   rw[e]
   exact h4
  ·intro H1 ps s1 M0
   have joinW:∀ x y:Nat,((WM G x).map fun row=>(WM G y).map fun r=>dot r row % LIM)=WM G (x+y):=fun x y=>by
    rw[tm]
    exact nG fun u v hu hv=>GS.AB fG (fun u v _ _=>rfl) (fun u v _ _=>rfl) hu hv
   refine⟨_,rfl,?_⟩
   let Inv:Nat→L2.St→Hp→Prop:=fun k σ H'=>∃(fq dq:Addr) (fs ds:List Addr) (x y:Nat),σ=[some (.ref a),some (.int (k:Nat)),some (.int (G.n:Nat)),some (.ref fq),some (.ref dq),none]∧Same H H'∧MatAt H' fq (WM G x) fs∧MatAt H' dq (WM G y) ds∧k0=x+y*k
   refine⟨fun m σ H'=>Inv m σ H',⟨k0,D,a,ps,as,0,1,rfl,s1,M0,by rw[← Aw];exact M.mono s1,by omega⟩,?_⟩
   rintro k σ H' ⟨fq,dq,fs,ds,x,y,rfl,sH,MF,MD,ek⟩
   refine⟨_,rfl,_,_,rfl,rfl,_,rfl,?_⟩
   refine aK (fun hc=>?_) (fun hc=>?_)
   ·have hk:0<k:=by have:=of_decide_eq_true hc;omega
    refine⟨fun σ' H'=>Inv (k / 2) σ' H',fun σ' H2 I=>⟨k / 2,by omega,I⟩,?_⟩
    have sF:=rL G n16 x
    have sD:=rL G n16 y
    have fin:∀(H2:Hp) (q:Addr) (qs:List Addr) (z:Nat),Same H H2→MatAt H2 q (WM G z) qs→MatAt H2 dq (WM G y) ds→k0=z+y*2*(k / 2)→
      ∃ v,([some (V.ref a),some (V.int (k:Nat)),some (V.int (G.n:Nat)),some (V.ref q),some (V.ref dq),none]:L2.St)[4]?=some (some v)∧∃ v2,([some (V.ref a),some (V.int (k:Nat)),some (V.int (G.n:Nat)),some (V.ref q),some (V.ref dq),none]:L2.St)[4]?=some (some v2)∧fe [v,v2] H2 (fun x H3=>∃ v,(([some (V.ref a),some (V.int (k:Nat)),some (V.int (G.n:Nat)),some (V.ref q),some (V.ref dq),none]:L2.St).set 4 (some x))[1]?=some (some v)∧∃ i j,v= .int i∧(V.int 2)= .int j∧(0<j∧j<1073741824)∧Inv (k / 2) ((([some (V.ref a),some (V.int (k:Nat)),some (V.int (G.n:Nat)),some (V.ref q),some (V.ref dq),none]:L2.St).set 4 (some x)).set 1 (some (V.int (i / j)))) H3) E0:=by
     intro H2 q qs z t2 MQ MD2 ez
     refine⟨_,rfl,_,rfl,dq,dq,_,_,ds,ds,G.n,rfl,MD2,MD2,n16,sD,sD,fun H3 q3 qs3 t3 hq3 M3=>?_⟩
     rw[joinW]at M3
     refine⟨_,rfl,_,_,rfl,rfl,⟨by decide,by decide⟩,q,q3,qs,qs3,z,y+y,?_,t2.trans t3,MQ.mono t3,M3,?_⟩
     ·have:((k:Nat):Int) / 2=((k / 2:Nat):Int):=by omega
      rw[this]
      rfl
     ·rw[ez,Nat.mul_two]
    refine⟨_,rfl,_,_,rfl,rfl,(by show(0:Int)<2;decide),rfl,_,rfl,?_⟩
    refine aK (fun ho=>?_) (fun ho=>?_)
    ·have hodd:k % 2=1:=by have:=V.int.inj (of_decide_eq_true ho);omega
     refine⟨_,rfl,_,rfl,fq,dq,_,_,fs,ds,G.n,rfl,MF,MD,n16,sF,sD,fun H3 q3 qs3 t3 hq3 M3=>?_⟩
     rw[joinW]at M3
     refine fin H3 q3 qs3 (x+y) (sH.trans t3) M3 (MD.mono t3) ?_
     have e2:k=2*(k / 2)+1:=by omega
     rw[ek]
     conv=>lhs;rw[e2]
     rw[Nat.mul_add,mul_one,← mul_assoc]
     omega
    ·have hev:k % 2=0:=by
      have:¬ k % 2=1:=fun z=>ho (by
       have:((k:Nat):Int) % 2=1:=by omega
       show decide (V.int ((k:Int) % 2)=V.int 1)=true
       rw[this]
       rfl)
      omega
     refine fin H' fq fs x sH MF MD ?_
     have e2:k=2*(k / 2):=by omega
     rw[ek]
     conv=>lhs;rw[e2]
     rw[← mul_assoc]
   ·have hk:k=0:=by
     have:¬(0:Int)<((k:Nat):Int):=by simpa using hc
     omega
    subst hk
    rw[Nat.mul_zero,Nat.add_zero]at ek
    subst ek
    exact⟨_,rfl,kk H' fq fs sH MF⟩
end
theorem km:(0:Int)<18446744073709551616:=by decide
theorem pj{X:Cx}{K:Frag}{e:Expr}{te:TE}{p pos:Pos}(hK:X.K=K)(hc:X.calm=true)(hm:X.mg "sum"=none)(h:PE X e te)(hg:Gl X "sum":=by rfl)(he:starEach [e] X.env=(false,eval e X.env)::starEach [] X.env:=by rfl)(hpl:(backTo pos (starEach [] X.env)).any (·.1)=false:=by rfl)(h0:starEach [e] X.env=(false,eval e X.env)::starEach [] X.env:=by rfl):
  PE X (.Call (.Name "sum" p) [e] [] pos) (tCB (rSum K) (uK te zv)):=by
 subst hK
 exact bx (o3 hc) hg hm (by decide +kernel) (ae h ai h0) (by decide) (by decide) he hpl
section
abbrev fL:Stmt:=top 50
theorem scCountWalks:ax ["joined","k","row"] ["joined","k"] (ak fL):=fsc
def ir:Sp:=fun vs H Q _=>∃(a:Addr) (G:Rc81.Graph) (as:List Addr) (k:Nat),vs=[.ref a,.int (k:Nat)]∧GrAt H a G as∧Rc81.Fine G∧G.n≤16∧k≤64∧∀ H',Same H H'→Q (.int ((Rc81.walksOf G k % LIM:Nat):Int)) H'
theorem nu{f:Addr}{fd:FuncData}(F:Fun K "count_walks" "count_walks" fL f fd)(T:Txt K mg){f1:Addr}{fd1:FuncData}(C1:Cal P w K mg base 4 "ways_over" ["joined","k"] ic f1 fd1):
  FnOk P w K mg base CX0 5 f fd ["joined","k"] ir:=by
 refine F.ok scCountWalks (fun vs H Q E h=>?_) (fun cdv Ar outer s H vs Q E hr h=>?_)
 ·obtain⟨a,G,as,k,rfl,_⟩:=h
  rfl
 ·obtain⟨a,G,as,k0,rfl,M,fG,n16,k64,kk⟩:=h
  have nd:=scCountWalks.nd
  obtain⟨tl,hlim⟩:=T.limit
  refine⟨_,aj (au (a0 jl (bx (o3 rfl) (by rfl) T.sum (by decide +kernel) (ae (bL rfl nd (jf (K:=K) rfl (aq C1 hr (ae (pv 0) (ae (pv 1) ai)))) (aM (own:=[("row",2)]) (show bX ["joined","k","row"] (ak fL) _ _=true by decide +kernel))
   (fun _ _ _ _ _=>aA (i:=2) nd rfl (Or.inl rfl)) (fun _ _ _ _ _=>aU) (fun _ _ _ _ _=>pj (K:=K) rfl rfl T.sum (pv 2))) ai)) (aD (v:= .int 18446744073709551616) rfl hlim ⟨tl,rfl⟩))),?_⟩
  refine⟨_,rfl,_,rfl,a,G,as,k0,rfl,M,fG,n16,k64,fun H1 q qs s1 MQ=>?_⟩
  refine⟨q,rfl,⟨_,SqL.of MQ.lst⟩,fun D hD=>?_⟩
  have lq:(qs.map V.ref).length=G.n:=by rw[length_map,MQ.len,aE]
  refine bA hD (aN (SqL.of MQ.lst)) (Same.refl _) (fun i=>V.int ((GS.S G.n (fun v=>GS.W G k0 i v % LIM):Nat):Int)) (by omega) ?_ ?_
  ·intro i x H' C Nx hi sH hx cont
   obtain⟨r,hr',rfl⟩:=aX hx
   have hi':i<G.n:=by omega
   have hR:=MQ.row i r _ hr' (bM hi')
   refine⟨rfl,lcY ⟨_,rfl,r,_,rfl,SqL.of (by rw[← mJ];exact sH _ _ hR),?_⟩⟩
   rw[gD]
   exact cont H' (Same.refl _)
  ·intro H' sH hA
   have eA:(List.range (qs.map V.ref).length).map (fun i=>V.int ((GS.S G.n (fun v=>GS.W G k0 i v % LIM):Nat):Int))=(((List.range G.n).map fun i=>GS.S G.n (fun v=>GS.W G k0 i v % LIM)).map fun x=>((x:Nat):Int)).map V.int:=by
    rw[lq,map_map,map_map]
    rfl
   rw[eA]at hA
   refine⟨D,_,rfl,SqL.of hA,_,_,rfl,rfl,km,?_⟩
   rw[gD]
   have:=kk H' (s1.trans sH)
   rw[GS.ua,← GS.tG (f:=fun u=>GS.S G.n fun v=>GS.W G k0 u v % LIM) (fun i _=>GS.uX _ _ _),Int.natCast_emod]at this
   exact this
abbrev dE:Stmt:=top 51
theorem scCountCircles:ax ["joined","k","found","point"] ["joined","k"] (ak dE):=fsc
def fu:Sp:=fun vs H Q _=>∃(a:Addr) (G:Rc81.Graph) (as:List Addr) (k:Nat),vs=[.ref a,.int (k:Nat)]∧GrAt H a G as∧Rc81.Fine G∧G.n≤16∧k≤64∧∀ H',Same H H'→Q (.int ((Rc81.circlesOf G k % LIM:Nat):Int)) H'
theorem jY{f:Addr}{fd:FuncData}(F:Fun K "count_circles" "count_circles" dE f fd)(T:Txt K mg){f1:Addr}{fd1:FuncData}(C1:Cal P w K mg base 4 "ways_over" ["joined","k"] ic f1 fd1):
  FnOk P w K mg base CX0 5 f fd ["joined","k"] fu:=by
 refine F.ok scCountCircles (fun vs H Q E h=>?_) (fun cdv Ar outer s H vs Q E hr h=>?_)
 ·obtain⟨a,G,as,k,rfl,_⟩:=h
  rfl
 ·obtain⟨a,G,as,k0,rfl,M,fG,n16,k64,kk⟩:=h
  have nd:=scCountCircles.nd
  obtain⟨tl,hlim⟩:=T.limit
  refine⟨_,af (ay (i:=2) nd rfl (Or.inr rfl) (aq C1 hr (ae (pv 0) (ae (pv 1) ai)))) (aj (au (a0 jl (bx (o3 rfl) (by rfl) T.sum (by decide +kernel) (ae (bL rfl nd (a5 rfl T.range (ae (aS (K:=K) rfl T.len (pv 2)) ai)) (aM (own:=[("point",3)]) (show bX ["joined","k","found","point"] (ak dE) _ _=true by decide +kernel))
   (fun _ _ _ _ _=>aA (i:=3) nd rfl (Or.inl rfl)) (fun _ _ _ _ _=>aU) (fun _ _ _ _ _=>aF (K:=K) rfl (aF (K:=K) rfl (pv 2) (pv 3)) (pv 3))) ai)) (aD (v:= .int 18446744073709551616) rfl hlim ⟨tl,rfl⟩)))),?_⟩
  refine⟨_,rfl,_,rfl,a,G,as,k0,rfl,M,fG,n16,k64,fun H1 q qs s1 MQ=>?_⟩
  have lq:(qs.map V.ref).length=G.n:=by rw[length_map,MQ.len,aE]
  refine⟨_,rfl,q,_,rfl,.inl (SqL.of MQ.lst),?_⟩
  rw[lq]
  refine⟨_,rfl,by omega,by omega,fun D hD=>?_⟩
  refine bA hD (bR 0 _) (Same.refl _) (fun i=>V.int ((GS.W G k0 i i % LIM:Nat):Int)) (by rw[show((G.n:Nat):Int).toNat=G.n by omega];omega) ?_ ?_
  ·intro i x H' C Nx hi sH hx cont
   subst hx
   have hi':i<G.n:=by rw[show((G.n:Nat):Int).toNat=G.n by omega]at hi;exact hi
   obtain⟨b,hb,hR⟩:=MQ.at_ (bM hi')
   have ei:(0:Int)+(i:Nat)=((i:Nat):Int):=by omega
   have hg:(nums ((List.range G.n).map fun v=>GS.W G k0 i v % LIM))[i]?=some (V.int ((GS.W G k0 i i % LIM:Nat):Int)):=by
    rw[List.getElem?_map,List.getElem?_map,List.getElem?_range hi']
    rfl
   exact⟨rfl,lcY ⟨_,rfl,_,rfl,q,_,_,_,rfl,rfl,SqL.of (sH _ _ MQ.lst),cQ (j:=i) ei (bo hb),_,rfl,b,_,_,_,rfl,rfl,SqL.of (sH _ _ hR),cQ (j:=i) ei hg,cont H' (Same.refl _)⟩⟩
  ·intro H' sH hA
   have eA:(List.range ((G.n:Nat):Int).toNat).map (fun i=>V.int ((GS.W G k0 i i % LIM:Nat):Int))=(((List.range G.n).map fun i=>GS.W G k0 i i % LIM).map fun x=>((x:Nat):Int)).map V.int:=by
    rw[show((G.n:Nat):Int).toNat=G.n by omega,map_map,map_map]
    rfl
   rw[eA]at hA
   refine⟨D,_,rfl,SqL.of hA,_,_,rfl,rfl,km,?_⟩
   rw[gD]
   have:=kk H' (s1.trans sH)
   rw[GS.ph,← GS.uX,Int.natCast_emod]at this
   exact this
abbrev jc:Stmt:=top 52
theorem scProducts:ax ["row","other","one","two"] ["row","other"] (ak jc):=fsc
def lz:Sp:=fun vs H Q _=>∃(a b:Addr) (x y:List Nat),vs=[.ref a,.ref b]∧aJ H a x∧aJ H b y∧x.length=y.length∧x.length≤16∧(∀ v∈x,v<2 ^ 64)∧∀ H' q,Same H H'→H q=none→aJ H' q ((x.zip y).map fun z=>z.1*z.2 % LIM)→Q (.ref q) H'
theorem qL{f:Addr}{fd:FuncData}(F:Fun K "products" "products" jc f fd)(T:Txt K mg):FnOk P w K mg base CX0 1 f fd ["row","other"] lz:=by
 refine F.ok scProducts (fun vs H Q E h=>?_) (fun cdv Ar outer s H vs Q E hr h=>?_)
 ·obtain⟨a,b,x,y,rfl,_⟩:=h
  rfl
 ·obtain⟨a,b,x,y,rfl,hx,hy,hl,l16,lt,k⟩:=h
  have nd:=scProducts.nd
  obtain⟨tl,hlim⟩:=T.limit
  refine⟨_,aj (au (bL rfl nd (xl rfl T.zip (ae (pv 0) (ae (pv 1) ai))) (aM (own:=[("one",2),("two",3)]) (show bX ["row","other","one","two"] (ak jc) _ _=true by decide +kernel))
   (fun _ _ _ _ _=>zG (K:=K) (n:=2) rfl rfl (il (aA (i:=2) nd rfl (Or.inl rfl)) (il (aA (i:=3) nd rfl (Or.inl rfl)) uY))) (fun _ _ _ _ _=>aU) (fun _ _ _ _ _=>a0 jl (a0 jb (pv 2) (pv 3)) (aD (v:= .int 18446744073709551616) rfl hlim ⟨tl,rfl⟩)))),?_⟩
  refine⟨_,rfl,_,rfl,a,b,_,_,rfl,SqL.of hx,SqL.of hy,fun D hD=>?_⟩
  refine bA hD (sI (SqL.of hx) (SqL.of hy) (by rw[length_map,length_map,hl])) (Same.refl _) (fun i=>V.int ((x.getD i 0*y.getD i 0 % LIM:Nat):Int)) (by rw[length_map];omega) ?_ ?_
  ·rintro i z H' C Nx hi sH ⟨Tp,u,v,rfl,hT,hu,hv⟩ cont
   obtain⟨p,q,hp,hq,rfl,rfl⟩:=vf hu hv
   have ep:x.getD i 0=p:=by rw[getD_eq_getElem?_getD,hp];rfl
   have eq:y.getD i 0=q:=by rw[getD_eq_getElem?_getD,hq];rfl
   have hlt:=lt p (mem_of_getElem? hp)
   rw[ep,eq,Int.natCast_emod,Int.natCast_mul]at cont
   exact⟨Tp,_,rfl,SqT.of hT,rfl,_,_,rfl,_,_,rfl,rfl,rfl,lcY ⟨_,rfl,_,rfl,_,_,rfl,rfl,.inl ⟨by omega,by omega⟩,_,_,rfl,rfl,km,cont H' (Same.refl _)⟩⟩
  ·intro H' sH hA
   refine k H' D sH hD ?_
   show H' D=_
   rw[hA,length_map,← zip_map x y hl (fun a b=>a*b % LIM)]
   unfold nums
   rw[map_map]
   rfl
abbrev lG:Stmt:=top 53
theorem scOneEach:ax ["joined","row"] ["joined"] (ak lG):=fsc
def n4:Sp:=fun vs H Q _=>∃(a:Addr) (m:List (List Nat)) (as:List Addr),vs=[.ref a]∧MatAt H a m as∧m.length≤16∧∀ H' q,Same H H'→H q=none→aJ H' q ((List.range m.length).map fun _=>1)→Q (.ref q) H'
theorem tK{f:Addr}{fd:FuncData}(F:Fun K "one_each" "one_each" lG f fd):FnOk P w K mg base CX0 1 f fd ["joined"] n4:=by
 refine F.ok scOneEach (fun vs H Q E h=>?_) (fun cdv Ar outer s H vs Q E hr h=>?_)
 ·obtain⟨a,m,as,rfl,_⟩:=h
  rfl
 ·obtain⟨a,m,as,rfl,M,l16,k⟩:=h
  have nd:=scOneEach.nd
  refine⟨_,aj (au (bL rfl nd (jf (K:=K) rfl (pv 0)) (aM (own:=[("row",1)]) (show bX ["joined","row"] (ak lG) _ _=true by decide +kernel)) (fun _ _ _ _ _=>aA (i:=1) nd rfl (Or.inl rfl)) (fun _ _ _ _ _=>aU) (fun _ _ _ _ _=>az))),?_⟩
  refine⟨_,rfl,a,rfl,⟨_,SqL.of M.lst⟩,fun D hD=>?_⟩
  refine bA hD (aN (SqL.of M.lst)) (Same.refl _) (fun i=>V.int ((1:Nat):Int)) (by rw[length_map,M.len];omega) ?_ ?_
  ·intro i x H' C Nx hi sH hx cont
   exact⟨rfl,lcY (cont H' (Same.refl _))⟩
  ·intro H' sH hA
   refine k H' D sH hD ?_
   show H' D=_
   rw[hA,length_map,M.len]
   unfold nums
   rw[map_map]
   rfl
end
theorem MatAt.set{H:Hp}{a:Addr}{m:List (List Nat)}{as:List Addr}(M:MatAt H a m as){j:Nat}(hj:j<as.length){q:Addr}{r:List Nat}(hq:aJ H q r):MatAt (upd H a (.lst ((as.map V.ref).set j (.ref q)))) a (m.set j r) (as.set j q):=by
 have ne:∀ b r',aJ H b r'→b≠a:=fun b r' hb e=>by
  subst e
  have e1:=hb.symm.trans M.lst
  injection e1 with e1
  injection e1 with e1
  have h0:(as.map V.ref)[0]?=some (V.ref as[0]):=by rw[List.getElem?_map,List.getElem?_eq_getElem (by omega)];rfl
  rw[← e1]at h0
  obtain⟨x,_,hx⟩:=aX h0
  cases hx
 refine⟨by rw[ah,List.map_set],by rw[length_set,length_set,M.len],fun i b r' h1 h2=>?_⟩
 by_cases e:i=j
 ·subst e
  rw[List.getElem?_set_self hj]at h1
  rw[List.getElem?_set_self (by rw[← M.len];exact hj)]at h2
  cases h1
  cases h2
  show upd H a _ q=_
  rw[ao (ne q r hq)]
  exact hq
 ·rw[List.getElem?_set_ne (Ne.symm e)]at h1 h2
  have:=M.row i b r' h1 h2
  show upd H a _ b=_
  rw[ao (ne b r' this)]
  exact this
theorem bq{α:Type}{l:List α}{i:Nat}{d:α}(h:i<l.length):l.getD i d=l[i]:=by
 rw[getD_eq_getElem?_getD,List.getElem?_eq_getElem h]
 rfl
theorem j9{n i:Nat}(h:i<n):ixN n (i:Int)=some i:=by
 unfold ixN
 rw[if_pos (by omega),if_pos (by omega)]
 congr 1
theorem ym{α:Type}{l:List α}{d:α}(h:0<l.length):l[0]=l.headD d:=by
 cases l with
 |nil=>simp at h
 |cons a b=>rfl
theorem rP{G:Rc81.Graph}{y:List Nat}(hy:y.length=G.n):((mat G.n (GS.E G)).map fun r=>dot r y % LIM)=(Rc81.spread G y).map (· % LIM):=by
 have e:y=(List.range G.n).map fun t=>y.getD t 0:=by rw[← hy,bY y 0 fun z=>z,List.map_id']
 have e2:(Rc81.spread G y)=(List.range G.n).map fun u=>(Rc81.spread G y).getD u 0:=by
  have:=bY (Rc81.spread G y) 0 fun z=>z
  rw[List.map_id',GS.eX]at this
  exact this.symm
 rw[e2]
 unfold mat
 rw[map_map,map_map]
 refine map_congr_left fun u hu=>?_
 show dot ((List.range G.n).map (GS.E G u)) y % LIM=(Rc81.spread G y).getD u 0 % LIM
 rw[GS.lj G y (mem_range.mp hu)]
 conv=>lhs;rw[e,oa]
def Rws(n k:Nat)(hs:List (List Nat)):Prop:=hs.length=k∧∀ r∈hs,r.length=n∧∀ v∈r,v<2 ^ 64
theorem yK{G:Rc81.Graph}{l:List Nat}{k:Nat}{hs:List (List Nat)}(R:Rws G.n k hs){i:Nat}(hp:l.getD i 0<k):Rws G.n k (GS.bO LIM G l hs i):=by
 unfold GS.bO
 refine⟨by rw[length_set,R.1],fun r hr=>?_⟩
 rcases List.mem_or_eq_of_mem_set hr with h|rfl
 ·exact R.2 r h
 ·have h1:(hs.getD (l.getD i 0) []).length=G.n:=by
   have hm:l.getD i 0<hs.length:=by rw[R.1];exact hp
   rw[bq hm]
   exact(R.2 _ (getElem_mem hm)).1
  refine⟨by rw[length_map,List.length_zip,length_map,GS.eX,h1];omega,fun v hv=>?_⟩
  obtain⟨z,_,rfl⟩:=mem_map.mp hv
  exact Nat.mod_lt _ (by decide)
section
abbrev fU:Stmt:=top 54
theorem scCountTrees:ax ["joined","hung","point","ways","above"] ["joined","hung"] (ak fU):=fsc
def iJ:Sp:=fun vs H Q _=>∃(a b:Addr) (G:Rc81.Graph) (as:List Addr) (l:List Nat),vs=[.ref a,.ref b]∧GrAt H a G as∧G.n≤16∧aJ H b l∧l.length≤15∧(∀ i,i<l.length→l.getD i 0≤i)∧∀ H',Same H H'→Q (.int ((Rc81.treesOf l G % LIM:Nat):Int)) H'
theorem mY{f:Addr}{fd:FuncData}(F:Fun K "count_trees" "count_trees" fU f fd)(T:Txt K mg){f1:Addr}{fd1:FuncData}(C1:Cal P w K mg base 1 "one_each" ["joined"] n4 f1 fd1){f2:Addr}{fd2:FuncData}(C2:Cal P w K mg base 1 "products" ["row","other"] lz f2 fd2){f3:Addr}{fd3:FuncData}(C3:Cal P w K mg base 2 "rows_times" ["rows","row"] fZ f3 fd3):
  FnOk P w K mg base CX0 3 f fd ["joined","hung"] iJ:=by
 refine F.ok scCountTrees (fun vs H Q E h=>?_) (fun cdv Ar outer s H vs Q E hr h=>?_)
 ·obtain⟨a,b,G,as,l,rfl,_⟩:=h
  rfl
 ·obtain⟨a,b,G,as,l,rfl,M,n16,hb,l15,hl,kk⟩:=h
  have nd:=scCountTrees.nd
  have hr1:Room 1 _:=hr.mono (by decide)
  obtain⟨tl,hlim⟩:=T.limit
  refine⟨_,af (dN (i:=3) rfl nd rfl rfl (gJ rfl rfl rfl (by decide +kernel)) (a5 rfl T.range (ae (a0 cJ (aS (K:=K) rfl T.len (pv 1)) az) ai)) (aM (own:=[("point",2)]) (show bX ["joined","hung","point","ways","above"] (ak fU) _ _=true by decide +kernel)) (fun _ _ _ _ _=>aA (i:=2) nd rfl (Or.inl rfl)) (fun _ _ _ _ _=>aU) (fun _ _ _ _ _=>aq C1 hr1 (ae (pv 0) ai)))
   (af (bC PassesOwn.never rfl (wK rfl T.range (ae (aS (K:=K) rfl T.len (pv 1)) (ae az (ae (xG uw az) ai)))) (aA (i:=2) nd rfl (Or.inl rfl))
    (af (ay (i:=4) nd rfl (Or.inl rfl) (aF (K:=K) rfl (pv 1) (a0 i9 (pv 2) az)))
    (aj (eP (aq C2 hr1 (ae (aF (K:=K) rfl (pv 3) (pv 4)) (ae (aq C3 hr (ae (pv 0) (ae (aF (K:=K) rfl (pv 3) (pv 2)) ai))) ai))) (eO (pv 3) (pv 4) cE)))))
   (aj (au (a0 jl (pj (K:=K) rfl rfl T.sum (aF (K:=K) rfl (pv 3) az)) (aD (v:= .int 18446744073709551616) rfl hlim ⟨tl,rfl⟩))))),?_⟩
  have ln:(((nums l).length:Nat):Int)+1=((l.length+1:Nat):Int):=by rw[length_map];omega
  refine⟨_,rfl,b,_,rfl,.inl (SqL.of hb),_,_,rfl,rfl,((l.length+1:Nat):Int),congrArg (fun z=>[V.int z]) ln,by omega,by omega,fun D hD=>?_⟩
  let m0:List (List Nat):=(List.range (l.length+1)).map fun _=>(Rc81.points G).map fun _=>1
  have tn:((l.length+1:Nat):Int).toNat=l.length+1:=by omega
  refine pI hD (bR 0 _) (Same.refl _) m0 (by rw[tn];simp[m0]) (by rw[tn];omega) ?_ ?_
  ·intro i x H' C Nx r hi hr' sH hx cont
   subst hx
   obtain⟨j,_,rfl⟩:=aX hr'
   refine⟨rfl,lcY ⟨_,rfl,a,_,as,rfl,M.mono sH,by rw[aE];omega,fun H4 p s4 hp h4=>cont p H4 s4 hp ?_⟩⟩
   rw[aE]at h4
   exact h4
  ·intro H1 ps s1 M0
   let hsAt:Nat→List (List Nat):=fun i=>((List.range l.length).reverse.take i).foldl (GS.bO LIM G l) m0
   have rev:∀ i,i<l.length→(List.range l.length).reverse[i]?=some (l.length - 1 - i):=fun i hi=>by
    rw[List.getElem?_reverse (by simpa using hi),length_range,List.getElem?_range (by omega)]
   have hsS:∀ i,i<l.length→hsAt (i+1)=GS.bO LIM G l (hsAt i) (l.length - 1 - i):=fun i hi=>by
    show List.foldl _ _ (List.take _ _)=_
    rw[a6 (rev i hi),List.foldl_append]
    rfl
   have R0:Rws G.n (l.length+1) m0:=⟨by simp[m0],fun r hr'=>by
    obtain⟨_,_,rfl⟩:=mem_map.mp hr'
    refine⟨by simp[Rc81.points],fun v hv=>?_⟩
    obtain⟨_,_,rfl⟩:=mem_map.mp hv
    decide⟩
   have RA:∀ i,i≤l.length→Rws G.n (l.length+1) (hsAt i):=fun i=>by
    induction i with
    |zero=>exact fun _=>R0
    |succ i ih=>
     intro hi
     rw[hsS i (by omega)]
     have:=hl (l.length - 1 - i) (by omega)
     exact yK (ih (by omega)) (by omega)
   refine⟨_,rfl,b,_,rfl,.inl (SqL.of (s1 _ _ hb)),_,rfl,((l.length:Nat):Int),0,-1,_,congrArg (fun z:Nat=>[V.int (z:Int),V.int 0,V.int (-1)]) (length_map ..),RgC.neg (by omega) (by omega) (by omega) (by omega),?_⟩
   rw[show(((l.length:Nat):Int) - 0).toNat=l.length by omega]
   refine bN (qE (H:=H) _ _ _) (fun i σ H'=>∃(x y:Option V) (qs:List Addr),σ=[some (.ref a),some (.ref b),x,some (.ref D),y]∧Same H H'∧MatAt H' D (hsAt i) qs) ⟨none,none,ps,rfl,s1,M0⟩ (fun i σ H' ⟨_,_,_,_,s,_⟩=>s) calm_rangeC.mono ?_ ?_
   ·rintro i x σ H' hi ⟨x1,y1,qs,rfl,sH,MD⟩ rfl
    let j:=l.length - 1 - i
    have hj:j<l.length:=by show l.length - 1 - i<_;omega
    have ej:((l.length:Nat):Int)+(i:Nat)*(-1) - 1=((j:Nat):Int):=by show _=((l.length - 1 - i:Nat):Int);omega
    have ej1:((l.length:Nat):Int)+(i:Nat)*(-1)=((j+1:Nat):Int):=by show _=((l.length - 1 - i+1:Nat):Int);omega
    have R:=RA i (by omega)
    have ha:l.getD j 0<(hsAt i).length:=by have:=hl j hj;rw[R.1];omega
    have ha1:j+1<(hsAt i).length:=by rw[R.1];omega
    obtain⟨q1,hq1,r1⟩:=MD.at_ (List.getElem?_eq_getElem ha)
    obtain⟨q2,hq2,r2⟩:=MD.at_ (List.getElem?_eq_getElem ha1)
    have hlj:(nums l)[j]?=some (V.int ((l.getD j 0:Nat):Int)):=by
     rw[List.getElem?_map,List.getElem?_eq_getElem hj,bq hj]
     rfl
    have w1:=R.2 _ (getElem_mem ha)
    have w2:=R.2 _ (getElem_mem ha1)
    have M':=M.mono sH
    refine⟨_,rfl,_,rfl,_,_,rfl,rfl,b,_,_,_,rfl,rfl,SqL.of (sH _ _ hb),cQ (j:=j) ej hlj,?_⟩
    refine⟨_,rfl,_,rfl,D,_,_,_,rfl,rfl,SqL.of MD.lst,cn (bo hq1),_,rfl,_,rfl,_,rfl,D,_,_,_,rfl,rfl,SqL.of MD.lst,cQ (j:=j+1) ej1 (bo hq2),a,q2,_,as,_,rfl,M',r2,?_,by omega,fun H3 q3 s3 hq3 r3=>?_⟩
    ·rw[w2.1]
     exact ow n16 fun u v _ _=>by have:=AI G u v;omega
    rw[rP w2.1]at r3
    refine⟨q1,q3,_,_,rfl,s3 _ _ r1,r3,by rw[w1.1,length_map,GS.eX],by omega,w1.2,fun H4 q4 s4 hq4 r4=>?_⟩
    have MD4:=(MD.mono s3).mono s4
    have hz:l.getD j 0<qs.length:=by rw[MD.len];exact ha
    refine⟨_,rfl,_,rfl,D,_,_,l.getD j 0,rfl,rfl,MD4.lst,?_,?_⟩
    ·exact j9 (by rw[length_map];exact hz)
    ·refine⟨_,_,qs.set (l.getD j 0) q4,rfl,((sH.trans s3).trans s4).put hD,?_⟩
     rw[hsS i hi]
     have:=MD4.set hz r4
     unfold GS.bO
     rw[bq (show l.length - 1 - i+1<_ from ha1),bq (show l.getD (l.length - 1 - i) 0<_ from ha)]
     exact this
   ·rintro σ H' ⟨x1,y1,qs,rfl,sH,MD⟩
    have R:=RA l.length (le_refl _)
    have h0:0<(hsAt l.length).length:=by rw[R.1];omega
    obtain⟨q1,hq1,r1⟩:=MD.at_ (List.getElem?_eq_getElem h0)
    refine⟨_,rfl,D,_,_,_,rfl,rfl,SqL.of MD.lst,cn (j:=0) (bo hq1),q1,_,rfl,SqL.of (by rw[← mJ];exact r1),_,_,rfl,rfl,km,?_⟩
    rw[gD]
    have:=kk H' sH
    rw[GS.qY (by decide),Int.natCast_emod]at this
    have e:(hsAt l.length)[0]=(((List.range l.length).reverse.foldl (GS.bO LIM G l) m0).headD []):=by
     have e1:hsAt l.length=(List.range l.length).reverse.foldl (GS.bO LIM G l) m0:=by
      show List.foldl _ _ (List.take _ _)=_
      rw[List.take_of_length_le (by simp)]
     rw[← e1]
     exact ym h0
    rw[e]
    exact this
end
def stv(G:Rc81.Graph)(p:List Nat)(v:Nat):Int:=if v∈p then -1 else((GS.val (GS.cF G p v):Nat):Int)
def st(G:Rc81.Graph)(p:List Nat):List Int:=(List.range G.n).map (stv G p)
theorem sY(G:Rc81.Graph)(p:List Nat):(st G p).length=G.n:=by simp[st]
theorem lH{G:Rc81.Graph}{v:Nat}(p:List Nat)(h:v<G.n):(st G p)[v]?=some (stv G p v):=by
 unfold st
 rw[List.getElem?_map,List.getElem?_range h]
 rfl
theorem stv_out{G:Rc81.Graph}{p:List Nat}{v:Nat}:stv G p v= -1↔v∈p:=by
 unfold stv
 by_cases h:v∈p
 ·simp[h]
 ·simp only[h,if_false,iff_false]
  omega
theorem gW{G:Rc81.Graph}{p:List Nat}{v:Nat}(h:v∉p):stv G p v=((GS.val (GS.cF G p v):Nat):Int):=if_neg h
theorem px{G:Rc81.Graph}{p q:List Nat}(h:st G p=st G q){v:Nat}(hv:v<G.n):stv G p v=stv G q v:=by
 have:=congrArg (fun l=>l[v]?) h
 simp only[lH _ hv]at this
 exact Option.some.inj this
theorem gu(G:Rc81.Graph)(p:List Nat)(v o:Nat):stv G (p++[v]) o=if o=v∨stv G p o= -1 then -1 else stv G p o*2+((GS.E G v o:Nat):Int):=by
 by_cases h:o=v∨stv G p o= -1
 ·rw[if_pos h,stv_out]
  rcases h with rfl|h
  ·exact mem_append_right _ mem_cons_self
  ·exact mem_append_left _ (stv_out.mp h)
 ·rw[if_neg h]
  have h1:o∉p:=fun z=>h (.inr (stv_out.mpr z))
  have h2:o∉p++[v]:=fun z=>by
   rcases mem_append.mp z with z|z
   ·exact h1 z
   ·exact h (.inl (mem_singleton.mp z))
  rw[gW h1,gW h2]
  have:GS.cF G (p++[v]) o=GS.cF G p o++[GS.E G v o]:=by
   unfold GS.cF
   rw[map_append]
   rfl
  rw[this,GS.yh]
  omega
section
abbrev jM:Stmt:=top 16
theorem scStateAfter:ax ["joined","state","point","row","after","other"] ["joined","state","point"] (ak jM):=fsc
def ip:Sp:=fun vs H Q _=>∃(a b:Addr) (G:Rc81.Graph) (as:List Addr) (p:List Nat) (v:Nat),vs=[.ref a,.ref b,.int (v:Nat)]∧GrAt H a G as∧H b=some (.tup ((st G p).map V.int))∧G.n≤16∧v<G.n∧∀ H' q,Same H H'→H' q=some (.tup ((st G (p++[v])).map V.int))→Q (.ref q) H'
theorem mX{f:Addr}{fd:FuncData}(F:Fun K "state_after" "state_after" jM f fd)(T:Txt K mg):FnOk P w K mg base CX0 1 f fd ["joined","state","point"] ip:=by
 refine F.ok scStateAfter (fun vs H Q E h=>?_) (fun cdv Ar outer s H vs Q E hr h=>?_)
 ·obtain⟨a,b,G,as,p,v,rfl,_⟩:=h
  rfl
 ·obtain⟨a,b,G,as,p,v,rfl,M,hb,n16,hv,kk⟩:=h
  have nd:=scStateAfter.nd
  obtain⟨tp,hpl⟩:=T.placed
  refine⟨_,af (ay (i:=3) nd rfl (Or.inl rfl) (aF (K:=K) rfl (pv 0) (pv 2)))
   (af (ay (i:=4) nd rfl (Or.inl rfl) (aP ai))
   (af (bC PassesOwn.never rfl (a5 rfl T.range (ae (aS (K:=K) rfl T.len (pv 1)) ai)) (aA (i:=5) nd rfl (Or.inl rfl))
    (aj (aQ (PW.pt (gy (aH bE (pv 5) (pv 2) (nomark _)) (eW (aH bE (kr (K:=K) rfl (pv 1) (pv 5)) (aD (v:= .int (-1)) rfl hpl ⟨tp,rfl⟩) (nomark _)))))
     (aj (cj (i0 PySem.F.plainAttrs_list PySem.F.slot_list_append PySem.F.type_list_append cw (pv 4) (ae (aD (v:= .int (-1)) rfl hpl ⟨tp,rfl⟩) ai))))
     (aj (cj (i0 PySem.F.plainAttrs_list PySem.F.slot_list_append PySem.F.type_list_append cw (pv 4) (ae (a0 cJ (a0 jb (kr (K:=K) rfl (pv 1) (pv 5)) az) (aF (K:=K) rfl (pv 3) (pv 5))) ai)))))))
   (aj (au (aV dC (by rfl) T.tuple (by decide +kernel) (ae (pv 4) ai)))))),?_⟩
  obtain⟨r,hr',R⟩:=M.at_ (bM hv)
  refine⟨_,rfl,_,rfl,a,_,_,_,rfl,rfl,SqL.of M.lst,cn (bo hr'),?_⟩
  refine⟨zero_le _,fun D hD=>?_⟩
  have ln:(((st G p).map V.int).length:Nat)=G.n:=by rw[length_map,sY]
  refine⟨_,rfl,b,_,rfl,.inr (SqT.of (by rw[ao (aL hb hD)];exact hb)),((G.n:Nat):Int),congrArg (fun z:Nat=>[V.int (z:Int)]) ln,by omega,by omega,?_⟩
  rw[show((G.n:Nat):Int).toNat=G.n by omega]
  refine cX (fun i σ H'=>∃ x,σ=[some (.ref a),some (.ref b),some (.int (v:Nat)),some (.ref r),some (.ref D),x]∧Same H H'∧H' D=some (.lst (((List.range i).map (stv G (p++[v]))).map V.int))) ⟨none,rfl,Same.new hD,ah⟩ ?_ ?_
  ·rintro i σ H' hi ⟨x,rfl,sH,hA⟩
   have ei:(0:Int)+(i:Nat)=((i:Nat):Int):=by omega
   have hst:((st G p).map V.int)[i]?=some (V.int (stv G p i)):=bo (lH p hi)
   have hE:(nums ((List.range G.n).map (GS.E G v)))[i]?=some (V.int ((GS.E G v i:Nat):Int)):=by
    rw[List.getElem?_map,List.getElem?_map,List.getElem?_range hi]
    rfl
   have hb':=SqT.of (K:=K) (sH _ _ hb)
   have fin:∀ e:Int,e=stv G (p++[v]) i→∃ x,([some (.ref a),some (.ref b),some (.int (v:Nat)),some (.ref r),some (.ref D),some (.int (0+(i:Nat)))]:L2.St)=[some (.ref a),some (.ref b),some (.int (v:Nat)),some (.ref r),some (.ref D),x]∧Same H (upd H' D (.lst (((List.range i).map (stv G (p++[v]))).map V.int++[V.int e])))∧upd H' D (.lst (((List.range i).map (stv G (p++[v]))).map V.int++[V.int e])) D=some (.lst (((List.range (i+1)).map (stv G (p++[v]))).map V.int)):=fun e he=>by
    refine⟨_,rfl,sH.put hD,?_⟩
    rw[ah,he,range_succ,map_append,map_append]
    rfl
   have sm:(((List.range i).map (stv G (p++[v]))).map V.int).length<sizeLine:=by
    rw[length_map,length_map,length_range]
    exact aC (by omega)
   refine⟨_,rfl,_,rfl,rfl,_,rfl,?_⟩
   refine aK (fun hc=>?_) (fun hc=>?_)
   ·have hiv:i=v:=by have:=V.int.inj (of_decide_eq_true hc);omega
    refine aK (fun _=>?_) (fun z=>absurd rfl z)
    exact⟨_,rfl,.inl ⟨rfl,_,SqL.of hA⟩,D,_,_,rfl,rfl,hA,sm,fin (-1) (by rw[gu,if_pos (.inl hiv)])⟩
   ·have hiv:¬ i=v:=fun z=>hc (by
     show decide (V.int (0+(i:Int))=V.int v)=true
     rw[ei,z]
     simp)
    refine⟨_,rfl,_,rfl,b,_,_,_,rfl,rfl,hb',cQ (j:=i) ei hst,rfl,_,rfl,?_⟩
    refine aK (fun hc2=>?_) (fun hc2=>?_)
    ·have h1:stv G p i= -1:=V.int.inj (of_decide_eq_true hc2)
     exact⟨_,rfl,.inl ⟨rfl,_,SqL.of hA⟩,D,_,_,rfl,rfl,hA,sm,fin (-1) (by rw[gu,if_pos (.inr h1)])⟩
    ·have h1:¬ stv G p i= -1:=fun z=>hc2 (by rw[z];rfl)
     exact⟨_,rfl,.inl ⟨rfl,_,SqL.of hA⟩,_,rfl,_,rfl,b,_,_,_,rfl,rfl,hb',cQ (j:=i) ei hst,_,_,rfl,rfl,.inr ⟨by decide,by decide⟩,_,rfl,_,rfl,r,_,_,_,rfl,rfl,SqL.of (sH _ _ R),cQ (j:=i) ei hE,_,_,rfl,rfl,D,_,_,rfl,rfl,hA,sm,fin _ (by rw[gu,if_neg (fun z=>z.elim hiv h1)])⟩
  ·rintro σ H' ⟨x,rfl,sH,hA⟩
   refine⟨_,rfl,D,_,rfl,.inl ⟨SqL.of hA,fun l hl=>kk _ l (sH.trans (Same.new hl)) ah⟩⟩
abbrev mO:Stmt:=top 17
theorem scLeastUn:ax ["state","number"] ["state"] (ak mO):=fsc
def oH:Sp:=fun vs H Q _=>∃(b:Addr) (xs:List Int),vs=[.ref b]∧H b=some (.tup (xs.map V.int))∧xs.length≤16∧(∃ x∈xs,x≠ -1)∧∀ H' m,Same H H'→m∈xs→m≠ -1→(∀ x∈xs,x≠ -1→m≤x)→Q (.int m) H'
theorem tN{f:Addr}{fd:FuncData}(F:Fun K "least_unplaced" "least_unplaced" mO f fd)(T:Txt K mg):FnOk P w K mg base CX0 1 f fd ["state"] oH:=by
 refine F.ok scLeastUn (fun vs H Q E h=>?_) (fun cdv Ar outer s H vs Q E hr h=>?_)
 ·obtain⟨b,xs,rfl,_⟩:=h
  rfl
 ·obtain⟨b,xs,rfl,hb,l16,⟨x0,hx0,hx1⟩,kk⟩:=h
  have nd:=scLeastUn.nd
  obtain⟨tp,hpl⟩:=T.placed
  refine⟨_,aj (au (bx (xA rfl) (by rfl) T.min (by decide +kernel) (ae (bL rfl nd (Az (pv 0)) (aM (own:=[("number",1)]) (show bX ["state","number"] (ak mO) _ _=true by decide +kernel)) (fun _ _ _ _ _=>aA (i:=1) nd rfl (Or.inl rfl)) (fun _ _ _ _ _=>eM (aH rD (pv 1) (aD (v:= .int (-1)) rfl hpl ⟨tp,rfl⟩) (nomark _))) (fun _ _ _ _ _=>pv 1)) ai))),?_⟩
  refine⟨_,rfl,b,rfl,⟨_,SqT.of hb⟩,fun D hD=>?_⟩
  refine fi hD (yy hb) (Same.refl _) (fun i=>decide (xs.getD i 0≠ -1)) (fun i=>V.int (xs.getD i 0)) (by rw[length_map];omega) ?_ ?_
  ·intro i x H' C Nx hi sH hx c1 c2
   obtain⟨z,hz,rfl⟩:=aX hx
   have ez:xs.getD i 0=z:=by rw[getD_eq_getElem?_getD,hz];rfl
   rw[ez]at c1 c2
   refine⟨rfl,_,rfl,rfl,_,rfl,?_⟩
   refine aK (fun hc=>?_) (fun hc=>?_)
   ·have hne:z≠ -1:=fun e=>by rw[e]at hc;exact absurd hc (by decide)
    exact⟨_,rfl,c1 (decide_eq_true hne) H' (Same.refl _)⟩
   ·have he:z= -1:=Classical.byContradiction fun e=>hc (by
     show(!decide (V.int z=V.int (-1)))=true
     rw[decide_eq_false (fun q=>e (V.int.inj q))]
     rfl)
    exact c2 (by simp[he]) H' (Same.refl _)
  ·intro H' sH hA
   refine⟨D,((List.range xs.length).filter fun i=>decide (xs.getD i 0≠ -1)).map fun i=>xs.getD i 0,rfl,SqL.of ?_,?_,?_⟩
   ·rw[hA,length_map,map_map]
    rfl
   ·obtain⟨i,hi,e⟩:=getElem_of_mem hx0
    have:xs.getD i 0∈((List.range xs.length).filter fun i=>decide (xs.getD i 0≠ -1)).map fun i=>xs.getD i 0:=mem_map.mpr ⟨i,mem_filter.mpr ⟨mem_range.mpr hi,by rw[bq hi,e];exact decide_eq_true hx1⟩,rfl⟩
    exact length_pos_of_mem this
   ·intro m hm hle
    obtain⟨i,hi,rfl⟩:=mem_map.mp hm
    obtain⟨hi1,hi2⟩:=mem_filter.mp hi
    have hi1:=mem_range.mp hi1
    refine kk H' _ sH (by rw[bq hi1];exact getElem_mem hi1) (of_decide_eq_true hi2) fun x hx hne=>?_
    obtain⟨j,hj,e⟩:=getElem_of_mem hx
    refine hle x (mem_map.mpr ⟨j,mem_filter.mpr ⟨mem_range.mpr hj,?_⟩,?_⟩)
    ·rw[bq hj,e]
     exact decide_eq_true hne
    ·rw[bq hj,e]
end
abbrev key(G:Rc81.Graph)(p:List Nat):List Key:=(st G p).map Sum.inl
theorem gU(G:Rc81.Graph)(p:List Nat):(key G p).map kV=(st G p).map V.int:=by
 unfold key
 rw[map_map]
 rfl
theorem yM{G:Rc81.Graph}{p q:List Nat}(h:key G p=key G q):st G p=st G q:=by
 have:=congrArg (List.map kV) h
 rw[gU,gU]at this
 exact(List.map_inj_right fun a b e=>V.int.inj e).mp this
def ents(G:Rc81.Graph)(es:List (List Nat×Addr)):List (List Key×V):=es.map fun e=>(key G e.1,V.ref e.2)
structure ot(H:Hp)(d:Addr)(G:Rc81.Graph)(es:List (List Nat×Addr)):Prop where
 dct:H d=some (.dT (ents G es))
 row:∀ e∈es,aJ H e.2 e.1
theorem mF{G:Rc81.Graph}{p:List Nat}:∀{es:List (List Nat×Addr)} {v:V},bj (ents G es) (key G p)=some v→∃ e∈es,st G e.1=st G p∧v= .ref e.2
 |[],v,h=>by cases h
 |e::es,v,h=>by
  by_cases c:key G e.1=key G p
  ·have h2:bj (ents G (e::es)) (key G p)=some (V.ref e.2):=bI c
   rw[h2]at h
   exact⟨e,mem_cons_self,yM c,(Option.some.inj h).symm⟩
  ·have h2:bj (ents G (e::es)) (key G p)=bj (ents G es) (key G p):=bG c
   rw[h2]at h
   obtain⟨e',h1,h2⟩:=mF h
   exact⟨e',mem_cons_of_mem _ h1,h2⟩
theorem sS{G:Rc81.Graph}{p:List Nat}:∀{es:List (List Nat×Addr)},(∃ e∈es,st G e.1=st G p)→∃ v,bj (ents G es) (key G p)=some v
 |[],⟨e,h,_⟩=>by cases h
 |e::es,⟨e',h1,h2⟩=>by
  by_cases c:key G e.1=key G p
  ·exact⟨_,bI (r:=ents G es) (p:=(key G e.1,V.ref e.2)) c⟩
  ·have h3:bj (ents G (e::es)) (key G p)=bj (ents G es) (key G p):=bG c
   rw[h3]
   refine sS ⟨e',?_,h2⟩
   rcases mem_cons.mp h1 with rfl|h1
   ·exact absurd (by unfold key;rw[h2]) c
   ·exact h1
theorem dG{G:Rc81.Graph}{p q:List Nat}(h:st G p=st G q)(v:Nat):st G (p++[v])=st G (q++[v]):=by
 unfold st
 refine map_congr_left fun o ho=>?_
 rw[gu,gu,px h (mem_range.mp ho)]
structure xO(G:Rc81.Graph)(k:Nat)(es:List (List Nat×Addr)):Prop where
 mem:∀ e∈es,e.1∈Rc81.leasts G k
 cov:∀ p∈Rc81.leasts G k,∃ e∈es,st G e.1=st G p
structure LeastNo(G:Rc81.Graph)(es:List (List Nat×Addr))(m:Int):Prop where
 le:∀ e∈es,∀ v,v<G.n→v∉e.1→m≤stv G e.1 v
 ex:∃ e∈es,∃ v,v<G.n∧v∉e.1∧m=stv G e.1 v
theorem LeastNo.nn{G:Rc81.Graph}{es:List (List Nat×Addr)}{m:Int}(L:LeastNo G es m):0≤m:=by
 obtain⟨e,_,v,_,h,rfl⟩:=L.ex
 rw[gW h]
 omega
theorem xu{G:Rc81.Graph}{k:Nat}{es:List (List Nat×Addr)}{m:Int}(O:xO G k es)(L:LeastNo G es m){p:List Nat}{v:Nat}(hp:p∈Rc81.leasts G k)(hv:v<G.n)(hm:stv G p v=m):p++[v]∈Rc81.leasts G (k+1):=by
 have nn:=L.nn
 have hn:v∉p:=fun z=>by rw[stv_out.mpr z]at hm;omega
 refine GS.mem_leasts_succ.mpr ⟨p,v,hp,hv,hn,rfl,fun p' v' hp' hv' hn'=>?_⟩
 obtain⟨e,he,hst⟩:=O.cov p' hp'
 have e1:=px hst hv'
 have hn2:v'∉e.1:=fun z=>hn' (stv_out.mp (by rw[← e1];exact stv_out.mpr z))
 have:=L.le e he v' hv' hn2
 rw[e1,gW hn',← hm,gW hn]at this
 omega
theorem yD{G:Rc81.Graph}{k:Nat}{es:List (List Nat×Addr)}{m:Int}(O:xO G k es)(L:LeastNo G es m){q:List Nat}(hq:q∈Rc81.leasts G (k+1)):∃ e∈es,∃ v,v<G.n∧stv G e.1 v=m∧st G (e.1++[v])=st G q:=by
 obtain⟨p,v,hp,hv,hn,rfl,hle⟩:=GS.mem_leasts_succ.mp hq
 obtain⟨e,he,hst⟩:=O.cov p hp
 refine⟨e,he,v,hv,?_,dG hst v⟩
 have e1:=px hst hv
 have hn2:v∉e.1:=fun z=>hn (stv_out.mp (by rw[← e1];exact stv_out.mpr z))
 have h1:=L.le e he v hv hn2
 obtain⟨e0,he0,v0,hv0,hn0,hm⟩:=L.ex
 have h2:=hle e0.1 v0 (O.mem e0 he0) hv0 hn0
 rw[gW hn0]at hm
 rw[e1,gW hn]at h1 ⊢
 omega
theorem zd{G:Rc81.Graph}{k:Nat}(hk:k<G.n){p:List Nat}(hp:p∈Rc81.leasts G k):∃ v,v<G.n∧v∉p:=by
 refine Classical.byContradiction fun h=>?_
 have hsub:∀ v∈List.range G.n,v∈p:=fun v hv=>Classical.byContradiction fun z=>h ⟨v,mem_range.mp hv,z⟩
 have h1:=GS.aW nodup_range hsub
 rw[length_range,GS.bK hp]at h1
 omega
theorem kg{H:Hp}{d x:Addr}{kvs:List (List Key×V)}{xs:List V}(hd:H d=some (.dT kvs))(hx:H x=some (.lst xs)):x≠d:=fun e=>by
 subst e
 rw[hx]at hd
 cases hd
theorem MatAt.lock{H:Hp}{a d:Addr}{m:List (List Nat)}{as:List Addr}{kvs:List (List Key×V)}(M:MatAt H a m as)(hd:H d=some (.dT kvs))(o:HO):MatAt (upd H d o) a m as:=
 ⟨by rw[ao (kg hd M.lst)];exact M.lst,M.len,fun i b r h1 h2=>by
  have:=M.row i b r h1 h2
  show upd H d o b=_
  rw[ao (kg hd this)]
  exact this⟩
section
abbrev cW:Stmt:=top 18
theorem scOrdersAfter:ax ["joined","orders","state","least","longer","point"] ["joined","orders"] (ak cW):=fsc
def gM:Sp:=fun vs H Q _=>∃(a d:Addr) (G:Rc81.Graph) (as:List Addr) (es:List (List Nat×Addr)) (k:Nat),vs=[.ref a,.ref d]∧GrAt H a G as∧G.n≤7∧k<G.n∧ot H d G es∧xO G k es∧es.length≤7 ^ k∧∀ H' q es',Same H H'→ot H' q G es'→xO G (k+1) es'→es'.length≤7 ^ (k+1)→Q (.ref q) H'
theorem lS{f:Addr}{fd:FuncData}(F:Fun K "orders_after" "orders_after" cW f fd)(T:Txt K mg){f1:Addr}{fd1:FuncData}(C1:Cal P w K mg base 1 "least_unplaced" ["state"] oH f1 fd1){f2:Addr}{fd2:FuncData}(C2:Cal P w K mg base 1 "state_after" ["joined","state","point"] ip f2 fd2):
  FnOk P w K mg base CX0 2 f fd ["joined","orders"] gM:=by
 refine F.ok scOrdersAfter (fun vs H Q E h=>?_) (fun cdv A outer s H vs Q E hr h=>?_)
 ·obtain⟨a,d,G,as,es,k,rfl,_⟩:=h
  rfl
 ·obtain⟨a,d,G,as,es,k,rfl,M,n7,hk,O,R,hl,kk⟩:=h
  have nd:=scOrdersAfter.nd
  have hu:=cf hr
  have hu3:(A.deeper (envOfC "orders_after" (ak cW) s.heap.objs.size f cdv)).units+1<cLine:=by have:=hr.un;omega
  refine⟨_,af (ay (i:=3) nd rfl (Or.inl rfl) (bx (xA rfl) (by rfl) T.min (by decide +kernel) (ae (pS (bL rfl nd (gF (pv 1)) (aM (own:=[("state",2)]) (show bX ["joined","orders","state","least","longer","point"] (ak cW) _ _=true by decide +kernel)) (fun _ _ _ _ _=>aA (i:=2) nd rfl (Or.inl rfl)) (fun _ _ _ _ _=>aU) (fun _ _ _ _ _=>aq C1 hr (ae (pv 2) ai)))) ai)))
   (af (ay (i:=4) nd rfl (Or.inl rfl) qt)
   (af (uU (bC PassesOwn.never rfl (gF (pv 1)) (aA (i:=2) nd rfl (Or.inl rfl))
    (aj (bC PassesOwn.never rfl (a5 rfl T.range (ae (aS (K:=K) rfl T.len (pv 2)) ai)) (aA (i:=5) nd rfl (Or.inl rfl))
     (aj (aQ (aH bE (kr (K:=K) rfl (pv 2) (pv 5)) (pv 3) (nomark _))
      (aj (cj (AC hu3 (pv 4) (aq C2 hr (ae (pv 0) (ae (pv 2) (ae (pv 5) ai)))) (a0 jt (a4 hu (pv 1) (pv 2) (fun _ _=>rfl)) (aP (ae (pv 5) ai))) ⟨rfl,rfl,rfl,rfl⟩)))
      aG))))))
   (aj (au (pv 4))))),?_⟩
  have len0:es.length<sizeLine:=lt_of_le_of_lt (le_trans hl (pow_le_pow_right (by decide) (show k≤7 by omega))) (by decide)
  refine⟨d,_,O.dct,True.intro,fun od=>?_⟩
  refine⟨_,rfl,d,od,rfl,.inr ⟨_,ah,fun D hD=>?_⟩⟩
  have hDd:D≠d:=fun z=>by rw[z,ah]at hD;cases hD
  have hD0:H D=none:=by rw[ao hDd]at hD;exact hD
  have lE:(ents G es).length=es.length:=length_map ..
  refine rO hD (mS ah) (Same.refl _) (fun i y _=>∃(e:List Nat×Addr) (m:Int),es[i]?=some e∧y= .int m∧m∈st G e.1∧m≠ -1∧∀ x∈st G e.1,x≠ -1→m≤x) (by rw[lE];exact len0) (fun i y H1 H2 _ h=>h) ?_ ?_
  ·rintro i x H' C Nx hi sH hDn ⟨kq,vq,q,hq,rfl,hT⟩ cont
   obtain⟨e,he,eq⟩:=aX hq
   obtain⟨rfl,rfl⟩:=Prod.mk.inj eq
   rw[gU]at hT
   have hm:=R.mem e (mem_of_getElem? he)
   obtain⟨v,hv,hvn⟩:=zd hk hm
   refine⟨rfl,lcY ⟨_,rfl,q,_,rfl,hT,by rw[sY];omega,⟨stv G e.1 v,mem_of_getElem? (lH _ hv),fun z=>hvn (stv_out.mp z)⟩,fun H4 m s4 h1 h2 h3=>cont _ H4 s4 ⟨e,m,he,rfl,h1,h2,h3⟩⟩⟩
  ·intro H1 ys sH1 hA hly hR
   have hd1:H1 d=some (.frz od (.dT (ents G es))):=sH1 _ _ ah
   refine⟨hd1,?_⟩
   have s12:=unlock O.dct sH1
   let tn:V→Int:=fun y=>match y with| .int m=>m|_=>0
   have ey:ys=(ys.map tn).map V.int:=by
    rw[map_map]
    refine ext_getElem? fun i=>?_
    rw[List.getElem?_map]
    cases hy:ys[i]? with
    |none=>rfl
    |some y=>
     obtain⟨e,m,_,rfl,_⟩:=hR i y hy
     rfl
   have hA2:(upd H1 d (.dT (ents G es))) D=some (.lst ((ys.map tn).map V.int)):=by rw[ao hDd,← ey];exact hA
   have hne:0<es.length:=by
    obtain⟨p,hp⟩:=GS.jq (G:=G) (k:=k) (by omega)
    obtain⟨e,he,_⟩:=R.cov p hp
    exact length_pos_of_mem he
   refine⟨D,_,rfl,SqL.of hA2,by rw[length_map,hly,lE];exact hne,fun m hm hle=>?_⟩
   have LN:LeastNo G es m:=by
    constructor
    ·intro e he v hv hvn
     obtain⟨j,hj,ej⟩:=getElem_of_mem he
     have hjy:j<ys.length:=by rw[hly,lE];exact hj
     obtain⟨e',m',he',em,_,_,h3⟩:=hR j ys[j] (List.getElem?_eq_getElem hjy)
     rw[List.getElem?_eq_getElem hj,ej]at he'
     cases he'
     have h4:=h3 (stv G e.1 v) (mem_of_getElem? (lH _ hv)) (fun z=>hvn (stv_out.mp z))
     have h5:=hle m' (mem_map.mpr ⟨ys[j],getElem_mem hjy,by rw[em]⟩)
     omega
    ·obtain⟨y,hy,rfl⟩:=mem_map.mp hm
     obtain⟨j,hj,ej⟩:=getElem_of_mem hy
     obtain⟨e,m',he,rfl,h1,h2,_⟩:=hR j y (by rw[List.getElem?_eq_getElem hj,ej])
     obtain⟨v,hv,ev⟩:=mem_map.mp h1
     refine⟨e,mem_of_getElem? he,v,mem_range.mp hv,fun z=>h2 (by rw[← ev];exact stv_out.mpr z),ev.symm⟩
   intro L hL
   generalize hH2:upd H1 d (.dT (ents G es))=H2 at*
   have O2:ot H2 d G es:=⟨s12 _ _ O.dct,fun e he=>s12 _ _ (O.row e he)⟩
   have M2:=M.mono s12
   have hLd:L≠d:=(aL O2.dct hL).symm
   refine⟨d,.dT (ents G es),(by rw[ao hLd.symm];exact O2.dct),True.intro,fun od2=>?_⟩
   refine⟨_,rfl,d,od2,rfl,.inr ⟨_,ah,?_⟩⟩
   let B:Hp:=upd H2 d (.frz od2 (.dT (ents G es)))
   have hBL:B L=none:=by show upd H2 d _ L=none;rw[ao hLd];exact hL
   have hBd:B d=some (.frz od2 (.dT (ents G es))):=ah
   have MB:GrAt B a G as:=M2.lock O2.dct _
   have rB:∀ e∈es,aJ B e.2 e.1:=fun e he=>by
    have:=O2.row e he
    show upd H2 d _ e.2=_
    rw[ao (kg O2.dct this)]
    exact this
   have sB0:Same B (upd (upd H2 L (.dT [])) d (.frz od2 (.dT (ents G es)))):=fun x o e=>by
    by_cases hx:x=d
    ·subst hx
     rw[ah]
     rw[hBd]at e
     exact e
    ·have e':upd H2 d _ x=some o:=e
     rw[ao hx]at e' ⊢
     rw[ao (aL e' hL)]
     exact e'
   let J:Nat→Nat→Hp→Prop:=fun i j H'=>Same B H'∧∃ es',ot H' L G es'∧(∀ e∈es',e.1∈Rc81.leasts G (k+1))∧(∀ i' v e,((i'<i∧v<G.n)∨(i'=i∧v<j))→es[i']?=some e→stv G e.1 v=m→∃ e'∈es',st G e'.1=st G (e.1++[v]))∧es'.length≤i*G.n+j
   refine bN (mS hBd) (fun i σ H'=>∃(x2 x5:Option V),σ=[some (.ref a),some (.ref d),x2,some (.int m),some (.ref L),x5]∧J i 0 H') ⟨_,_,rfl,sB0,[],⟨by rw[ao hLd];exact ah,fun e he=>absurd he not_mem_nil⟩,fun e he=>absurd he not_mem_nil,fun i' v e h=>(by omega),(by simp)⟩ (fun i σ H' ⟨_,_,_,j⟩=>j.1) calm_keysT.mono ?_ ?_
   ·rintro i x σ H' hi ⟨x2,x5,rfl,j0⟩ ⟨kq,vq,q,hq,rfl,hT⟩
    obtain⟨e,he,eq⟩:=aX hq
    obtain⟨rfl,rfl⟩:=Prod.mk.inj eq
    rw[gU]at hT
    have hi':i<es.length:=by rw[lE]at hi;exact hi
    have ln:(((st G e.1).map V.int).length:Nat)=G.n:=by rw[length_map,sY]
    refine⟨_,rfl,q,_,rfl,.inr (SqT.of hT),((G.n:Nat):Int),congrArg (fun z:Nat=>[V.int (z:Int)]) ln,by omega,by omega,?_⟩
    rw[show((G.n:Nat):Int).toNat=G.n by omega]
    refine cX (fun j σ H3=>∃ x5,σ=[some (.ref a),some (.ref d),some (.ref q),some (.int m),some (.ref L),x5]∧H3 q=some (.tup ((st G e.1).map V.int))∧J i j H3) ⟨_,rfl,hT,j0⟩ ?_ ?_
    ·rintro j σ H3 hj ⟨x5,rfl,hT3,sB3,es',O3,mem3,cov3,len3⟩
     have ej:(0:Int)+(j:Nat)=((j:Nat):Int):=by omega
     have hst:((st G e.1).map V.int)[j]?=some (V.int (stv G e.1 j)):=bo (lH e.1 hj)
     refine⟨_,rfl,_,rfl,q,_,_,_,rfl,rfl,SqT.of hT3,cQ (j:=j) ej hst,_,rfl,rfl,_,rfl,?_⟩
     have more:∀ es2:List (List Nat×Addr),(∀ e'∈es',e'∈es2)→(stv G e.1 j=m→∃ e'∈es2,st G e'.1=st G (e.1++[j]))→∀ i' v e2,((i'<i∧v<G.n)∨(i'=i∧v<j+1))→es[i']?=some e2→stv G e2.1 v=m→∃ e'∈es2,st G e'.1=st G (e2.1++[v]):=by
      intro es2 sub hh i' v e2 h h1 h2
      by_cases c:i'=i∧v=j
      ·obtain⟨rfl,rfl⟩:=c
       rw[he]at h1
       cases h1
       exact hh h2
      ·obtain⟨e',h3,h4⟩:=cov3 i' v e2 (by omega) h1 h2
       exact⟨e',sub e' h3,h4⟩
     refine aK (fun hc=>?_) (fun hc=>?_)
     ·have hm2:stv G e.1 j=m:=V.int.inj (of_decide_eq_true hc)
      refine⟨_,rfl,L,rfl,.inr ⟨_,.inl O3.dct⟩,_,rfl,_,rfl,_,rfl,a,q,G,as,e.1,j,congrArg (fun z:Int=>[V.ref a,V.ref q,V.int z]) ej,MB.mono sB3,hT3,by omega,hj,fun H4 t s4 ht=>?_⟩
      have hd4:=s4 _ _ (sB3 _ _ hBd)
      obtain⟨v0,hv0⟩:=sS (G:=G) (p:=e.1) ⟨e,mem_of_getElem? he,rfl⟩
      obtain⟨e2,he2,hst2,rfl⟩:=mF hv0
      have hT4:=s4 _ _ hT3
      have g4:DGet H4 d (.ref q) (some (.ref e2.2)):= .inr ⟨_,key G e.1,q,.inr ⟨od2,hd4⟩,rfl,by rw[gU];exact hT4,hv0.symm⟩
      refine⟨_,rfl,_,rfl,d,_,rfl,g4,_,rfl,le_of_lt (aC (show 1≤1000 by decide)),fun p1 hp1=>?_⟩
      have r4:=s4 _ _ (sB3 _ _ (rB e2 he2))
      have sm:e2.1.length=k:=GS.bK (R.mem e2 he2)
      refine⟨e2.2,p1,_,_,rfl,rfl,Same.new hp1 _ _ r4,ah,?_,fun p2 hp2=>?_⟩
      ·rw[length_map,sm]
       exact le_of_lt (aC (by simp;omega))
      have s46:Same H4 (upd (upd H4 p1 (.lst [V.int (0+(j:Int))])) p2 (.lst (nums e2.1++[V.int (0+(j:Int))]))):=(Same.new hp1).trans (Same.new hp2)
      have O6:ot _ L G es':=⟨s46 _ _ (s4 _ _ O3.dct),fun e' h'=>s46 _ _ (s4 _ _ (O3.row e' h'))⟩
      have lens:es'.length≤7 ^ 7:=by
       have h1:i*G.n+j≤es.length*G.n:=by
        have:(i+1)*G.n≤es.length*G.n:=Nat.mul_le_mul_right _ hi'
        rw[add_mul]at this
        omega
       have h2:es.length*G.n≤7 ^ 6*7:=Nat.mul_le_mul (le_trans hl (pow_le_pow_right (by decide) (by omega))) n7
       have h3:(7:Nat) ^ 7=7 ^ 6*7:=by decide
       omega
      refine⟨_,key G (e.1++[j]),t,O6.dct,rfl,by rw[gU];exact s46 _ _ ht,by rw[show(ents G es').length=es'.length from length_map ..];exact lt_of_le_of_lt lens (by decide),fun v hv=>?_,fun hv=>?_⟩
      ·obtain⟨e3,he3,hst3,_⟩:=mF hv
       exact⟨_,rfl,s46 _ _ hT4,(sB3.trans s4).trans s46,es',O6,mem3,more es' (fun _ h=>h) (fun _=>⟨e3,he3,hst3⟩),by omega⟩
      ·have hk6:key G (e.1++[j])=key G (e2.1++[j]):=by unfold key;rw[dG hst2]
       have hqL:q≠L:=fun z=>by rw[z,O3.dct]at hT3;cases hT3
       refine⟨_,rfl,by rw[ao hqL];exact s46 _ _ hT4,((sB3.trans s4).trans s46).put hBL,es'++[(e2.1++[j],p2)],⟨?_,?_⟩,?_,more _ (fun _ h=>mem_append_left _ h) (fun _=>⟨(e2.1++[j],p2),mem_append_right _ mem_cons_self,dG hst2 j⟩),by rw[length_append];simp;omega⟩
       ·rw[ah,hk6]
        unfold ents
        rw[map_append]
        rfl
       ·intro e' h'
        rcases mem_append.mp h' with h'|h'
        ·have:=O6.row e' h'
         show upd _ L _ e'.2=_
         rw[ao (kg O6.dct this)]
         exact this
        ·rw[mem_singleton.mp h']
         have hp2L:p2≠L:=fun z=>by
          have:=O6.dct
          rw[← z,ah]at this
          cases this
         show upd _ L _ p2=_
         rw[ao hp2L,ah,ej]
         unfold nums
         rw[map_append]
         rfl
       ·intro e' h'
        rcases mem_append.mp h' with h'|h'
        ·exact mem3 e' h'
        ·rw[mem_singleton.mp h']
         exact xu R LN (R.mem e2 he2) hj (by rw[px hst2 hj];exact hm2)
     ·have hm2:¬ stv G e.1 j=m:=fun z=>hc (by rw[z];exact decide_eq_true rfl)
      exact⟨_,rfl,hT3,sB3,es',O3,mem3,more es' (fun _ h=>h) (fun z=>absurd z hm2),by omega⟩
    ·rintro σ H3 ⟨x5,rfl,_,sB3,es',O3,mem3,cov3,len3⟩
     refine⟨_,_,rfl,sB3,es',O3,mem3,fun i' v e' h h1 h2=>?_,?_⟩
     ·refine cov3 i' v e' ?_ h1 h2
      rcases h with⟨h,hv⟩|⟨_,h⟩
      ·by_cases c:i'<i
       ·exact .inl ⟨c,hv⟩
       ·exact .inr ⟨by omega,hv⟩
      ·omega
     ·rw[add_mul]
      omega
   ·rintro σ H' ⟨x2,x5,rfl,sB,es',O3,mem3,cov3,len3⟩
    have hd3:=sB _ _ hBd
    refine⟨hd3,_,rfl,?_⟩
    have hn3:∀ x xs,H' x=some (.lst xs)→x≠d:=fun x xs hx z=>by rw[z,hd3]at hx;cases hx
    refine kk _ L es' (s12.trans (unlock O2.dct sB)) ⟨by rw[ao hLd];exact O3.dct,fun e he=>?_⟩ ⟨mem3,fun p hp=>?_⟩ ?_
    ·have:=O3.row e he
     show upd H' d _ e.2=_
     rw[ao (hn3 _ _ this)]
     exact this
    ·obtain⟨e,he,v,hv,h1,h2⟩:=yD R LN hp
     obtain⟨i,hi,ei⟩:=getElem_of_mem he
     obtain⟨e',h3,h4⟩:=cov3 i v e (.inl ⟨by rw[lE];exact hi,hv⟩) (by rw[List.getElem?_eq_getElem hi,ei]) h1
     exact⟨e',h3,h4.trans h2⟩
    ·rw[lE]at len3
     have h2:es.length*G.n≤7 ^ k*7:=Nat.mul_le_mul hl n7
     rw[pow_succ]
     omega
end
section
abbrev dt:Stmt:=top 19
theorem scLeastOrder:ax ["joined","start","orders","placed","row"] ["joined"] (ak dt):=fsc
def iP:Sp:=fun vs H Q _=>∃(a:Addr) (G:Rc81.Graph) (as:List Addr),vs=[.ref a]∧GrAt H a G as∧G.n≤7∧∀ H' q p,Same H H'→p∈Rc81.leasts G G.n→aJ H' q p→Q (.ref q) H'
theorem mW{f:Addr}{fd:FuncData}(F:Fun K "least_order" "least_order" dt f fd)(T:Txt K mg){f1:Addr}{fd1:FuncData}(C1:Cal P w K mg base 2 "orders_after" ["joined","orders"] gM f1 fd1):
  FnOk P w K mg base CX0 3 f fd ["joined"] iP:=by
 refine F.ok scLeastOrder (fun vs H Q E h=>?_) (fun cdv A outer s H vs Q E hr h=>?_)
 ·obtain⟨a,G,as,rfl,_⟩:=h
  rfl
 ·obtain⟨a,G,as,rfl,M,n7,kk⟩:=h
  have nd:=scLeastOrder.nd
  have hu:=cf hr
  have hu3:(A.deeper (envOfC "least_order" (ak dt) s.heap.objs.size f cdv)).units<cLine:=by have:=hr.un;omega
  refine⟨_,af (ay (i:=1) nd rfl (Or.inl rfl) (aV dC (by rfl) T.tuple (by decide +kernel) (ae (bL rfl nd (jf (K:=K) rfl (pv 0)) (aM (own:=[("row",4)]) (show bX ["joined","start","orders","placed","row"] (ak dt) _ _=true by decide +kernel)) (fun _ _ _ _ _=>aA (i:=4) nd rfl (Or.inl rfl)) (fun _ _ _ _ _=>aU) (fun _ _ _ _ _=>az)) ai)))
   (af (ay (i:=2) nd rfl (Or.inl rfl) (wQ hu3 (pv 1) (aP ai)))
   (af (bC PassesOwn.never rfl (a5 rfl T.range (ae (aS (K:=K) rfl T.len (pv 0)) ai)) (aA (i:=3) nd rfl (Or.inl rfl))
    (aj (ay (i:=2) nd rfl (Or.inl rfl) (aq C1 hr (ae (pv 0) (ae (pv 2) ai))))))
   (aj (au (aF (K:=K) rfl (aV (kT hr.hd) (by rfl) T.list (by decide +kernel) (ae (oU (pv 2)) ai)) az))))),?_⟩
  refine⟨_,rfl,a,rfl,⟨_,SqL.of M.lst⟩,fun D hD=>?_⟩
  have la:(as.map V.ref).length=G.n:=by rw[length_map,M.len,aE]
  refine bA hD (aN (SqL.of M.lst)) (Same.refl _) (fun i=>V.int 0) (by omega) ?_ ?_
  ·intro i x H' C Nx hi sH hx cont
   exact⟨rfl,lcY (cont H' (Same.refl _))⟩
  ·intro H1 s1 hA
   refine⟨D,_,rfl,.inl ⟨SqL.of hA,fun t ht=>?_⟩⟩
   rw[la]
   intro d hd
   have s2:=s1.trans (Same.new (o:= .tup ((List.range G.n).map fun _=>V.int 0)) ht)
   refine⟨_,rfl,zero_le _,fun q hq=>?_⟩
   have hqd:d≠q:=fun z=>by rw[← z,ah]at hq;cases hq
   have htd:t≠d:=fun z=>by rw[← z,ah]at hd;cases hd
   have htq:t≠q:=fun z=>by rw[← z,ao htd,ah]at hq;cases hq
   have s3:=(s2.trans (Same.new (o:= .dT []) hd)).trans (Same.new (o:= .lst []) hq)
   have n0:H d=none:=s2.free hd
   have ek:((List.range G.n).map fun _=>V.int 0)=(key G []).map kV:=by
    rw[gU]
    unfold st
    rw[map_map]
    rfl
   refine⟨by rw[ao hqd];exact ah,key G [],t,rfl,by rw[ao htq,ao htd,ah,ek],?_⟩
   have s4:=s3.put (o:= .dT [(key G [],V.ref q)]) n0
   refine⟨_,rfl,a,_,rfl,.inl (SqL.of (s4 _ _ M.lst)),((G.n:Nat):Int),congrArg (fun z:Nat=>[V.int (z:Int)]) la,by omega,by omega,?_⟩
   rw[show((G.n:Nat):Int).toNat=G.n by omega]
   refine cX (fun i σ H'=>∃(d2:Addr) (x3:Option V) (es:List (List Nat×Addr)),σ=[some (.ref a),some (.ref t),some (.ref d2),x3,none]∧Same H H'∧ot H' d2 G es∧xO G i es∧es.length≤7 ^ i) ⟨d,none,[([],q)],rfl,s4,⟨ah,fun e he=>?_⟩,⟨fun e he=>?_,fun p hp=>?_⟩,by simp⟩ ?_ ?_
   ·rw[mem_singleton.mp he]
    show upd _ d _ q=_
    rw[ao hqd.symm,ah]
    rfl
   ·rw[mem_singleton.mp he]
    simp[Rc81.leasts]
   ·have:p=[]:=by simpa [Rc81.leasts]using hp
    exact⟨_,mem_cons_self,by rw[this]⟩
   ·rintro i σ H' hi ⟨d2,x3,es,rfl,sH,O,R,hl⟩
    refine⟨_,rfl,_,rfl,a,d2,G,as,es,i,rfl,M.mono sH,n7,hi,O,R,hl,fun H2 q2 es2 s2 O2 R2 l2=>⟨q2,_,es2,rfl,sH.trans s2,O2,R2,l2⟩⟩
   ·rintro σ H' ⟨d2,x3,es,rfl,sH,O,R,hl⟩
    obtain⟨p,hp⟩:=GS.jq (G:=G) (k:=G.n) (le_refl _)
    obtain⟨e0,he0,_⟩:=R.cov p hp
    have h0:0<es.length:=length_pos_of_mem he0
    have hm:es[0]∈es:=getElem_mem h0
    refine⟨_,rfl,d2,rfl,.inr ⟨_,.inl O.dct⟩,fun v hv=>?_⟩
    refine⟨v,d2,_,rfl,ah,.inr ⟨_,.inl (Same.new hv _ _ O.dct),rfl⟩,fun l hl2=>?_⟩
    refine⟨l,_,_,V.ref es[0].2,rfl,rfl,SqL.of ah,cn (j:=0) ?_,?_⟩
    ·unfold ents
     rw[map_map,List.getElem?_map,List.getElem?_eq_getElem h0]
     rfl
    ·have s5:=(Same.new (o:=VW v d2) hv).trans (Same.new (o:= .lst ((ents G es).map (·.2))) hl2)
     exact kk _ _ es[0].1 (sH.trans s5) (R.mem _ hm) (s5 _ _ (O.row _ hm))
abbrev ur:Stmt:=top 20
theorem scReRow:ax ["row","order","other"] ["row","order"] (ak ur):=fsc
def vk:Sp:=fun vs H Q _=>∃(a b:Addr) (r p:List Nat),vs=[.ref a,.ref b]∧aJ H a r∧aJ H b p∧p.length≤16∧(∀ v∈p,v<r.length)∧∀ H' q,Same H H'→H q=none→aJ H' q (p.map fun v=>r.getD v 0)→Q (.ref q) H'
theorem xQ{f:Addr}{fd:FuncData}(F:Fun K "reordered_row" "reordered_row" ur f fd):FnOk P w K mg base CX0 1 f fd ["row","order"] vk:=by
 refine F.ok scReRow (fun vs H Q E h=>?_) (fun cdv Ar outer s H vs Q E hr h=>?_)
 ·obtain⟨a,b,r,p,rfl,_⟩:=h
  rfl
 ·obtain⟨a,b,r,p,rfl,ha,hb,l16,lt,k⟩:=h
  have nd:=scReRow.nd
  refine⟨_,aj (au (bL rfl nd (jf (K:=K) rfl (pv 1)) (aM (own:=[("other",2)]) (show bX ["row","order","other"] (ak ur) _ _=true by decide +kernel)) (fun _ _ _ _ _=>aA (i:=2) nd rfl (Or.inl rfl)) (fun _ _ _ _ _=>aU) (fun _ _ _ _ _=>aF (K:=K) rfl (pv 0) (pv 2)))),?_⟩
  refine⟨_,rfl,b,rfl,⟨_,SqL.of hb⟩,fun D hD=>?_⟩
  refine bA hD (aN (SqL.of hb)) (Same.refl _) (fun i=>V.int ((r.getD (p.getD i 0) 0:Nat):Int)) (by rw[length_map];omega) ?_ ?_
  ·intro i x H' C Nx hi sH hx cont
   obtain⟨v,hv,hm,rfl⟩:=bc hx
   have e:p.getD i 0=v:=by rw[getD_eq_getElem?_getD,hv];rfl
   have hl:=lt v hm
   rw[e,bq hl]at cont
   exact⟨rfl,lcY ⟨_,rfl,_,rfl,a,_,_,_,rfl,rfl,SqL.of (sH _ _ ha),cn (bo (List.getElem?_eq_getElem hl)),cont H' (Same.refl _)⟩⟩
  ·intro H' sH hA
   refine k H' D sH hD ?_
   show H' D=_
   rw[hA,length_map,bY p 0 (fun v=>V.int ((r.getD v 0:Nat):Int))]
   unfold nums
   rw[map_map]
   rfl
end
theorem mH{J:It}{H0 H1:Hp}{D:Addr}(hD:H1 D=none){n:Nat}{xv:Nat→V→Hp→Prop}(O:iM J H0 n xv)(s01:Same H0 H1){g:TG}{te:TE}{vs:List Nat}{σ:L2.St}{Qd:Hp→Prop}(m:List (List Nat))(hm:m.length=n)(hn:n≤1000)
  (hs:∀(i:Nat) (x:V) (H':Hp) (C:VK) (N:Hp→Prop) (r:List Nat),i<n→m[i]?=some r→Same H1 H'→xv i x H'→(∀ p H4,Same H' H4→H' p=none→aJ H4 p r→C (.ref p) H4)→g x (wipe σ vs) H' fun σ2 H2=>wipe σ2 vs=wipe σ vs∧jX σ2 H2 fun b H3=>if b=true then te σ2 H3 C else N H3)
  (hd:∀ H' ps,Same H1 H'→MatAt H' D m ps→ps.Nodup→(∀ p∈ps,H1 p=none)→D∉ps→Qd H'):
  ∃ W:Nat→Nat→Hp→Prop,(∃ m,W 0 m (upd H1 D (.lst [])))∧∀ i m H,W i m H→
   (J.stop i H∧Qd H)∨(J.go i H∧∃ Nx:Hp→Prop,(∀ H',Nx H'→∃ m',m'<m∧W (i+1) m' H')∧∀ x H',J.yld i H x H'→g x (wipe σ vs) H' fun σ2 H2=>wipe σ2 vs=wipe σ vs∧jX σ2 H2 fun b H3=>
    if b=true then te σ2 H3 fun y H4=>∃ acc,H4 D=some (.lst acc)∧acc.length<sizeLine∧Nx (upd H4 D (.lst (acc++[y])))else Nx H3):=by
 let Pv:Nat→Hp→Prop:=fun i H=>Same H1 H∧∃ ps:List Addr,H D=some (.lst (ps.map V.ref))∧ps.length=i∧ps.Nodup∧(∀ p∈ps,H1 p=none∧p≠D)∧∀(j:Nat) (p:Addr) (r:List Nat),ps[j]?=some p→m[j]?=some r→aJ H p r
 refine⟨fun i m H=>m=n - i∧i≤n∧Pv i H,⟨n,by simp,zero_le _,Same.new hD,[],ah,rfl,nodup_nil,fun p hp=>absurd hp not_mem_nil,fun j p r h=>by simp at h⟩,?_⟩
 rintro i mm H ⟨rfl,hi,sH,ps,hA,hl,hnd,hf,hR⟩
 by_cases hlt:i<n
 ·refine .inr ⟨O.go i H hlt (s01.trans sH),Pv (i+1),fun H' p'=>⟨n - (i+1),by omega,rfl,hlt,p'⟩,fun x H' y=>?_⟩
  obtain⟨s1,v1⟩:=O.yld i H x H' hlt (s01.trans sH) y
  have him:i<m.length:=by omega
  refine hs i x H' _ _ m[i] hlt (List.getElem?_eq_getElem him) (sH.trans s1) v1 fun p H4 s4 hp h4=>?_
  have hA':H' D=some (.lst (ps.map V.ref)):=s1 _ _ hA
  have hA4:H4 D=some (.lst (ps.map V.ref)):=s4 _ _ hA'
  have hpD:p≠D:=fun z=>by rw[z,hA']at hp;cases hp
  have hpp:p∉ps:=fun z=>by
   obtain⟨j,hj,ej⟩:=getElem_of_mem z
   have:=s1 _ _ (hR j p m[j] (by rw[List.getElem?_eq_getElem hj,ej]) (List.getElem?_eq_getElem (by omega)))
   rw[hp]at this
   cases this
  refine⟨_,hA4,by rw[length_map,hl];exact aC (by omega),((sH.trans s1).trans s4).put hD,ps++[p],by rw[ah,map_append];rfl,by simp[hl],?_,fun q hq=>?_,fun j q r hj hr=>?_⟩
  ·exact nodup_append.mpr ⟨hnd,nodup_cons.mpr ⟨not_mem_nil,nodup_nil⟩,fun a ha b hb e=>hpp (by rw[← mem_singleton.mp hb,← e];exact ha)⟩
  ·rcases mem_append.mp hq with hq|hq
   ·exact hf q hq
   ·rw[mem_singleton.mp hq]
    exact⟨(sH.trans s1).free hp,hpD⟩
  ·by_cases hjl:j<ps.length
   ·rw[List.getElem?_append_left hjl]at hj
    show upd H4 D _ q=_
    rw[ao (hf q (mem_of_getElem? hj)).2]
    exact s4 _ _ (s1 _ _ (hR j q r hj hr))
   ·rw[List.getElem?_append_right (by omega)]at hj
    have hj0:j - ps.length=0:=by
     cases e:j - ps.length with
     |zero=>rfl
     |succ z=>rw[e]at hj;simp at hj
    rw[hj0]at hj
    have eq:p=q:=by simpa using hj
    subst eq
    have ej:j=i:=by omega
    subst ej
    rw[List.getElem?_eq_getElem him]at hr
    cases hr
    show upd H4 D _ p=_
    rw[ao hpD]
    exact h4
 ·have e:i=n:=by omega
  subst e
  exact .inl ⟨O.stop H (s01.trans sH),hd H ps sH ⟨hA,by omega,hR⟩ hnd (fun p hp=>(hf p hp).1) (fun z=>(hf D z).2 rfl)⟩
structure zJ(H H':Hp)(q:Addr)(G:Rc81.Graph)(qs:List Addr):Prop where
 at_:GrAt H' q G qs
 top:H q=none
 nd:qs.Nodup
 new:∀ p∈qs,H p=none
theorem pz{G:Rc81.Graph}(fG:Rc81.Fine G){p:List Nat}(hp:p∈Rc81.leasts G G.n):(p.map fun u=>p.map fun v=>((List.range G.n).map (GS.E G u)).getD v 0)=mat (Rc81.formOf G).n (GS.E (Rc81.formOf G)):=by
 rw[GS.rC fG hp,GS.zc]
 have hl:=GS.bK hp
 have lt:=(GS.dw hp).2
 have ep:p=(List.range G.n).map fun i=>p.getD i 0:=by rw[← hl,bY p 0 fun z=>z,List.map_id']
 have hlt:∀ i,i<G.n→p.getD i 0<G.n:=fun i hi=>by
  rw[bq (by omega)]
  exact lt _ (getElem_mem _)
 have e1:∀ f:Nat→Nat,p.map f=(List.range G.n).map fun i=>f (p.getD i 0):=fun f=>by
  conv=>lhs;rw[ep]
  rw[map_map]
  rfl
 have e2:∀ f:Nat→List Nat,p.map f=(List.range G.n).map fun i=>f (p.getD i 0):=fun f=>by
  conv=>lhs;rw[ep]
  rw[map_map]
  rfl
 rw[e2]
 unfold mat
 refine map_congr_left fun u hu=>?_
 show(p.map fun v=>_)=_
 rw[e1]
 refine map_congr_left fun v hv=>?_
 have hu:=mem_range.mp hu
 have hv:=mem_range.mp hv
 have:((List.range G.n).map (GS.E G (p.getD u 0))).getD (p.getD v 0) 0=GS.E G (p.getD u 0) (p.getD v 0):=by
  rw[getD_eq_getElem?_getD,List.getElem?_map,List.getElem?_range (hlt v hv)]
  rfl
 rw[this]
 unfold GS.E
 rw[GS.cu,decide_eq_true hu,decide_eq_true hv]
 rfl
section
abbrev pD:Stmt:=top 21
theorem scFormOf:ax ["joined","order","point"] ["joined"] (ak pD):=fsc
def qk:Sp:=fun vs H Q _=>∃(a:Addr) (G:Rc81.Graph) (as:List Addr),vs=[.ref a]∧GrAt H a G as∧G.n≤7∧Rc81.Fine G∧∀ H' q qs,Same H H'→zJ H H' q (Rc81.formOf G) qs→Q (.ref q) H'
theorem vS{f:Addr}{fd:FuncData}(F:Fun K "form_of" "form_of" pD f fd){f1:Addr}{fd1:FuncData}(C1:Cal P w K mg base 3 "least_order" ["joined"] iP f1 fd1){f2:Addr}{fd2:FuncData}(C2:Cal P w K mg base 1 "reordered_row" ["row","order"] vk f2 fd2):
  FnOk P w K mg base CX0 4 f fd ["joined"] qk:=by
 refine F.ok scFormOf (fun vs H Q E h=>?_) (fun cdv A outer s H vs Q E hr h=>?_)
 ·obtain⟨a,G,as,rfl,_⟩:=h
  rfl
 ·obtain⟨a,G,as,rfl,M,n7,fG,kk⟩:=h
  have nd:=scFormOf.nd
  have hr1:Room 1 _:=hr.mono (by decide)
  refine⟨_,af (ay (i:=1) nd rfl (Or.inr rfl) (aq C1 hr (ae (pv 0) ai)))
   (aj (au (bL rfl nd (jf (K:=K) rfl (pv 1)) (aM (own:=[("point",2)]) (show bX ["joined","order","point"] (ak pD) _ _=true by decide +kernel)) (fun _ _ _ _ _=>aA (i:=2) nd rfl (Or.inl rfl)) (fun _ _ _ _ _=>aU) (fun _ _ _ _ _=>aq C2 hr1 (ae (aF (K:=K) rfl (pv 0) (pv 2)) (ae (pv 1) ai)))))),?_⟩
  refine⟨_,rfl,a,G,as,rfl,M,n7,fun H1 q p s1 hp hq=>?_⟩
  have hl:=GS.bK hp
  have lt:=(GS.dw hp).2
  refine⟨_,rfl,q,rfl,⟨_,SqL.of hq⟩,fun D hD=>?_⟩
  refine mH hD (aN (SqL.of hq)) (Same.refl _) _ (show(p.map fun u=>p.map fun v=>((List.range G.n).map (GS.E G u)).getD v 0).length=_ by rw[length_map,length_map]) (by rw[length_map];omega) ?_ ?_
  ·intro i x H' C Nx r hi hr' sH hx cont
   obtain⟨u,hu,hm,rfl⟩:=bc hx
   obtain⟨u',hu',rfl⟩:=aX hr'
   rw[hu]at hu'
   cases hu'
   obtain⟨b,hb,hR⟩:=M.at_ (bM (lt u hm))
   refine⟨rfl,lcY ⟨_,rfl,_,rfl,a,_,_,_,rfl,rfl,SqL.of (sH _ _ (s1 _ _ M.lst)),cn (bo hb),_,rfl,b,q,_,p,rfl,sH _ _ (s1 _ _ hR),sH _ _ hq,by omega,fun v hv=>?_,fun H4 t s4 ht h4=>cont t H4 s4 ht h4⟩⟩
   rw[length_map,length_range]
   exact lt v hv
  ·intro H' ps sH MP hnd hnew _
   rw[pz fG hp]at MP
   exact kk H' D ps (s1.trans sH) ⟨MP,s1.free hD,hnd,fun x hx=>s1.free (hnew x hx)⟩
end
open Rc81 (Graph Abs Call)
structure di(K:Frag)(mg:Str→Option Value):Prop where
 points:∃ t,mg "MOST_POINTS"=some (.int 16 t)
 steps:∃ t,mg "MOST_STEPS"=some (.int 64 t)
 hung:∃ t,mg "MOST_HUNG"=some (.int 15 t)
 done:∃ t,mg "DONE"=some (.int 0 t)
 refused:∃ t,mg "REFUSED"=some (.int (-1) t)
 there:∃ t,mg "THERE_IS_NONE"=some (.int (-2) t)
 c0:∃ t,mg "BEGIN"=some (.int 0 t)
 c1:∃ t,mg "GRAPH"=some (.int 1 t)
 c2:∃ t,mg "EDGE"=some (.int 2 t)
 c3:∃ t,mg "DEGREE"=some (.int 3 t)
 c4:∃ t,mg "TURN"=some (.int 4 t)
 c5:∃ t,mg "SETTLE"=some (.int 5 t)
 c6:∃ t,mg "CLASSES"=some (.int 6 t)
 c7:∃ t,mg "ROUNDS"=some (.int 7 t)
 c8:∃ t,mg "APART"=some (.int 8 t)
 c9:∃ t,mg "REFINED"=some (.int 9 t)
 c10:∃ t,mg "SAME"=some (.int 10 t)
 c11:∃ t,mg "MOVINGS"=some (.int 11 t)
 c12:∃ t,mg "ORBITS"=some (.int 12 t)
 c13:∃ t,mg "WALKS"=some (.int 13 t)
 c14:∃ t,mg "CIRCLES"=some (.int 14 t)
 c15:∃ t,mg "TREES"=some (.int 15 t)
 widths:∃ a,mg "WIDTHS"=some (.ref a)∧∀ H,SqT K H a ([0,2,4,2,1,1,2,1,2,0,1,1,2,2,2,2].map V.int)
def StAt(H:Hp)(g:Addr)(s:Abs)(X:List Addr):Prop:=∃(a b:Addr) (as bs:List Addr),H g=some (.lst [.ref a,.ref b])∧GrAt H a s.a as∧GrAt H b s.b bs∧(as++bs).Nodup∧g∉a::b::(as++bs)∧X=g::a::b::(as++bs)
theorem StAt.mono{H H':Hp}{g:Addr}{s:Abs}{X:List Addr}(S:StAt H g s X)(e:Same H H'):StAt H' g s X:=by
 obtain⟨a,b,as,bs,h1,h2,h3,h4,h5,h6⟩:=S
 exact⟨a,b,as,bs,e _ _ h1,h2.mono e,h3.mono e,h4,h5,h6⟩
theorem GrAt.has{H:Hp}{a:Addr}{m:List (List Nat)}{as:List Addr}(M:MatAt H a m as){p:Addr}(hp:p∈as):∃ r∈m,aJ H p r:=by
 obtain⟨i,hi,e⟩:=getElem_of_mem hp
 have him:i<m.length:=by rw[← M.len];exact hi
 exact⟨m[i],getElem_mem him,M.row i p m[i] (by rw[List.getElem?_eq_getElem hi,e]) (List.getElem?_eq_getElem him)⟩
theorem StAt.there{H:Hp}{g:Addr}{s:Abs}{X:List Addr}(S:StAt H g s X){x:Addr}(hx:x∈X):H x≠none:=by
 obtain⟨a,b,as,bs,h1,h2,h3,_,_,rfl⟩:=S
 intro z
 rcases mem_cons.mp hx with rfl|hx
 ·rw[h1]at z;cases z
 rcases mem_cons.mp hx with rfl|hx
 ·rw[h2.lst]at z;cases z
 rcases mem_cons.mp hx with rfl|hx
 ·rw[h3.lst]at z;cases z
 rcases mem_append.mp hx with hx|hx
 ·obtain⟨r,_,e⟩:=GrAt.has h2 hx
  rw[e]at z;cases z
 ·obtain⟨r,_,e⟩:=GrAt.has h3 hx
  rw[e]at z;cases z
def Kept(H H':Hp)(X X':List Addr):Prop:=(∀ x o,x∉X→H x=some o→H' x=some o)∧(∀ x,x∈X'→x∈X∨H x=none)∧∀ x,H' x=none→H x=none
theorem Kept.of_same{H H':Hp}{X:List Addr}(s:Same H H'):Kept H H' X X:=⟨fun x o _ e=>s x o e,fun x h=> .inl h,fun x h=>s.free h⟩
theorem Kept.out{H H':Hp}{X X':List Addr}(k:Kept H H' X X'){x:Addr}{o:HO}(hx:x∉X)(e:H x=some o):x∉X'∧H' x=some o:=
 ⟨fun z=>(k.2.1 x z).elim hx (fun n=>by rw[e]at n;cases n),k.1 x o hx e⟩
theorem Kept.trans{H H' H2:Hp}{X X' X2:List Addr}(k:Kept H H' X X')(k2:Kept H' H2 X' X2):Kept H H2 X X2:=by
 refine⟨fun x o hx e=>?_,fun x hx=>?_,fun x h=>k.2.2 x (k2.2.2 x h)⟩
 ·obtain⟨h1,h2⟩:=k.out hx e
  exact k2.1 x o h1 h2
 ·rcases k2.2.1 x hx with h|h
  ·exact k.2.1 x h
  ·exact .inr (k.2.2 x h)
def Does(H:Hp)(Q:VK)(g:Addr)(s:Abs)(X:List Addr)(c:Call):Prop:=StAt H g s X∧GS.Good s∧GS.tZ s c∧
 ∀ H' X' q,StAt H' g (Rc81.does s c).1 X'→Kept H H' X X'→H q=none→q∉X'→H' q=some (.lst ((GS.said (Rc81.does s c).2).map V.int))→Q (.ref q) H'
theorem Does.ans{H:Hp}{Q:VK}{g:Addr}{s:Abs}{X:List Addr}{c:Call}(D:Does H Q g s X c){a:Rc81.Ans}(e:Rc81.does s c=(s,a)){H':Hp}{q:Addr}(sH:Same H H')(hq:H q=none){l:List Int}(hl:l=GS.said a)(h:H' q=some (.lst (l.map V.int))):Q (.ref q) H':=by
 obtain⟨S,_,_,k⟩:=D
 rw[e]at k
 subst hl
 exact k H' X q (S.mono sH) (Kept.of_same sH) hq (fun z=>S.there z hq) h
theorem Does.fin{H H3:Hp}{Q:VK}{g:Addr}{s:Abs}{X X':List Addr}{c:Call}(D:Does H Q g s X c){q:Addr}{l:List Int}(S:StAt H3 g (Rc81.does s c).1 X')(k:Kept H H3 X X')(hq:H3 q=none)(hl:l=GS.said (Rc81.does s c).2):Q (.ref q) (upd H3 q (.lst (l.map V.int))):=by
 subst hl
 exact D.2.2.2 _ X' q (S.mono (Same.new hq)) (k.trans (Kept.of_same (Same.new hq))) (k.2.2 q hq) (fun z=>S.there z hq) ah
theorem which{g:Int}:Rc81.isWhich g=true↔g=0∨g=1:=by simp[Rc81.isWhich]
theorem StAt.pick{H:Hp}{g:Addr}{s:Abs}{X:List Addr}(S:StAt H g s X){z:Int}(hz:Rc81.isWhich z=true):∃ l x xs,H g=some (.lst l)∧atI l z=some (.ref x)∧GrAt H x (s.at_ z) xs:=by
 obtain⟨a,b,as,bs,h1,h2,h3,_,_,_⟩:=S
 rcases which.mp hz with rfl|rfl
 ·exact⟨_,a,as,h1,rfl,h2⟩
 ·exact⟨_,b,bs,h1,rfl,h3⟩
theorem StAt.put{H H2:Hp}{g:Addr}{s:Abs}{X:List Addr}(S:StAt H g s X){z:Int}(hz:Rc81.isWhich z=true)(e:Same H H2){q:Addr}{G:Graph}{qs:List Addr}(N:zJ H H2 q G qs):
  ∃ l j X',H2 g=some (.lst l)∧ixN l.length z=some j∧StAt (upd H2 g (.lst (l.set j (.ref q)))) g (s.put z G) X'∧Kept H (upd H2 g (.lst (l.set j (.ref q)))) X X':=by
 have S':=S
 obtain⟨a,b,as,bs,h1,h2,h3,h4,h5,rfl⟩:=S
 have gq:g≠q:=aL h1 N.top
 have gqs:g∉qs:=fun z=>by
  have:=N.new g z
  rw[h1]at this
  cases this
 have ga:g≠a:=fun z=>h5 (by rw[z];exact mem_cons_self)
 have gb:g≠b:=fun z=>h5 (by rw[z];exact mem_cons_of_mem _ mem_cons_self)
 have gas:g∉as:=fun z=>h5 (mem_cons_of_mem _ (mem_cons_of_mem _ (mem_append_left _ z)))
 have gbs:g∉bs:=fun z=>h5 (mem_cons_of_mem _ (mem_cons_of_mem _ (mem_append_right _ z)))
 obtain⟨n1,n2,n3⟩:=nodup_append.mp h4
 have old:∀{x:Addr} {m:List (List Nat)} {xs:List Addr} (o:HO),MatAt H2 x m xs→g≠x→g∉xs→MatAt (upd H2 g o) x m xs:=fun o M hx hxs=>by
  refine⟨by rw[ao hx.symm];exact M.lst,M.len,fun i y r hi hr=>?_⟩
  show upd H2 g o y=_
  rw[ao (fun z=>hxs (by rw[← z];exact mem_of_getElem? hi))]
  exact M.row i y r hi hr
 have dis:∀{xs:List Addr} {G:Graph} {x:Addr},GrAt H x G xs→∀ p∈qs,p∉xs:=fun M p hp z=>by
  obtain⟨r,_,hr⟩:=GrAt.has M z
  have:=N.new p hp
  rw[hr]at this
  cases this
 have keep:∀(o:HO) (X':List Addr),(∀ x∈X',x∈g::a::b::(as++bs)∨H x=none)→Kept H (upd H2 g o) (g::a::b::(as++bs)) X':=fun o X' h=>⟨fun x ob hx hh=>by
  rw[ao (fun z=>hx (by rw[z];exact mem_cons_self))]
  exact e _ _ hh,h,fun x hx=>by
  by_cases hg:x=g
  ·rw[hg,ah]at hx;cases hx
  ·rw[ao hg]at hx
   exact e.free hx⟩
 rcases which.mp hz with rfl|rfl
 ·refine⟨_,0,g::q::b::(qs++bs),e _ _ h1,rfl,⟨q,b,qs,bs,ah,old _ N.at_ gq gqs,old _ (h3.mono e) gb gbs,nodup_append.mpr ⟨N.nd,n2,fun x hx y hy z=>dis h3 x hx (z▸hy)⟩,fun z=>?_,rfl⟩,keep _ _ fun x hx=>?_⟩
  ·rcases mem_cons.mp z with z|z
   ·exact gq z
   rcases mem_cons.mp z with z|z
   ·exact gb z
   rcases mem_append.mp z with z|z
   ·exact gqs z
   ·exact gbs z
  ·rcases mem_cons.mp hx with rfl|hx
   ·exact .inl mem_cons_self
   rcases mem_cons.mp hx with rfl|hx
   ·exact .inr N.top
   rcases mem_cons.mp hx with rfl|hx
   ·exact .inl (mem_cons_of_mem _ (mem_cons_of_mem _ mem_cons_self))
   rcases mem_append.mp hx with hx|hx
   ·exact .inr (N.new x hx)
   ·exact .inl (mem_cons_of_mem _ (mem_cons_of_mem _ (mem_cons_of_mem _ (mem_append_right _ hx))))
 ·refine⟨_,1,g::a::q::(as++qs),e _ _ h1,rfl,⟨a,q,as,qs,ah,old _ (h2.mono e) ga gas,old _ N.at_ gq gqs,nodup_append.mpr ⟨n1,N.nd,fun x hx y hy z=>dis h2 y hy (z▸hx)⟩,fun z=>?_,rfl⟩,keep _ _ fun x hx=>?_⟩
  ·rcases mem_cons.mp z with z|z
   ·exact ga z
   rcases mem_cons.mp z with z|z
   ·exact gq z
   rcases mem_append.mp z with z|z
   ·exact gas z
   ·exact gqs z
  ·rcases mem_cons.mp hx with rfl|hx
   ·exact .inl mem_cons_self
   rcases mem_cons.mp hx with rfl|hx
   ·exact .inl (mem_cons_of_mem _ mem_cons_self)
   rcases mem_cons.mp hx with rfl|hx
   ·exact .inr N.top
   rcases mem_append.mp hx with hx|hx
   ·exact .inl (mem_cons_of_mem _ (mem_cons_of_mem _ (mem_cons_of_mem _ (mem_append_left _ hx))))
   ·exact .inr (N.new x hx)
section
abbrev rm:Stmt:=top 79
theorem scIsGraph:ax ["g"] ["g"] (ak rm):=fsc
def bD:Sp:=fun vs H Q _=>∃ z:Int,vs=[.int z]∧Q (.bl (Rc81.isWhich z)) H
theorem tu{f:Addr}{fd:FuncData}(F:Fun K "is_graph" "is_graph" rm f fd):FnOk P w K mg base CX0 1 f fd ["g"] bD:=by
 refine F.ok scIsGraph (fun vs H Q E h=>?_) (fun cdv Ar outer s H vs Q E hr h=>?_)
 ·obtain⟨z,rfl,_⟩:=h
  rfl
 ·obtain⟨z,rfl,k⟩:=h
  have nd:=scIsGraph.nd
  refine⟨_,aj (au (pe_or (cD bE (pv 0) az (nomark _)) (mN (cD bE (pv 0) az (nomark _))))),?_⟩
  refine⟨_,rfl,rfl,_,rfl,?_⟩
  have d0:∀ c:Int,decide (V.int z=V.int c)=decide (z=c):=fun c=>by
   by_cases h:z=c
   ·rw[h];simp
   ·rw[decide_eq_false h,decide_eq_false (fun q=>h (V.int.inj q))]
  refine aK (fun hc=>?_) (fun hc=>?_)
  ·have:z=0:=V.int.inj (of_decide_eq_true hc)
   have e:Rc81.isWhich z=true:=which.mpr (.inl this)
   rw[e]at k
   exact k
  ·have:¬ z=0:=fun q=>hc (by rw[q];rfl)
   refine⟨_,rfl,rfl,?_⟩
   have e:Rc81.isWhich z=decide (V.int z=V.int 1):=by rw[d0];simp[Rc81.isWhich,this]
   rw[e]at k
   exact k
abbrev oK:Stmt:=top 80
theorem scHasPoint:ax ["graphs","g","u"] ["graphs","g","u"] (ak oK):=fsc
def eU:Sp:=fun vs H Q _=>∃(g:Addr) (s:Abs) (X:List Addr) (z u:Int),vs=[.ref g,.int z,.int u]∧StAt H g s X∧Q (.bl (Rc81.isWhich z&&Rc81.below u (s.at_ z).n)) H
theorem rS{f:Addr}{fd:FuncData}(F:Fun K "has_point" "has_point" oK f fd)(T:Txt K mg){f1:Addr}{fd1:FuncData}(C1:Cal P w K mg base 1 "is_graph" ["g"] bD f1 fd1):FnOk P w K mg base CX0 2 f fd ["graphs","g","u"] eU:=by
 refine F.ok scHasPoint (fun vs H Q E h=>?_) (fun cdv Ar outer s H vs Q E hr h=>?_)
 ·obtain⟨g,s,X,z,u,rfl,_⟩:=h
  rfl
 ·obtain⟨g,st,X,z,u,rfl,S,k⟩:=h
  have nd:=scHasPoint.nd
  refine⟨_,aj (au (lV (aq C1 hr (ae (pv 1) ai)) (lV (cD nZ az (pv 2) (nomark _)) (mN (cD vE (pv 2) (aS (K:=K) rfl T.len (aF (K:=K) rfl (pv 0) (pv 1))) (nomark _)))))),?_⟩
  refine⟨_,rfl,z,rfl,_,rfl,?_⟩
  refine aK (fun hw=>?_) (fun hw=>?_)
  ·rw[hw,Bool.true_and]at k
   refine⟨_,rfl,_,_,rfl,rfl,_,rfl,?_⟩
   unfold Rc81.below at k
   refine aK (fun h0=>?_) (fun h0=>?_)
   ·obtain⟨l,x,xs,h1,h2,h3⟩:=S.pick hw
    refine⟨_,rfl,_,rfl,_,rfl,g,l,_,_,rfl,rfl,SqL.of h1,h2,x,_,rfl,.inl (SqL.of h3.lst),_,_,rfl,rfl,?_⟩
    rw[h0,Bool.true_and]at k
    rw[length_map,h3.len,aE]
    exact k
   ·rw[Bool.not_eq_true]at h0
    rw[h0,Bool.false_and]at k
    exact k
  ·rw[Bool.not_eq_true]at hw
   rw[hw,Bool.false_and]at k
   exact k
abbrev gO:Stmt:=top 81
theorem scFirstNumbers:ax ["numbers","most"] ["numbers","most"] (ak gO):=fsc
def cB:Sp:=fun vs H Q _=>∃(a:Addr) (l:List Nat) (m:Int),vs=[.ref a,.int m]∧aJ H a l∧l.length≤16∧∀ H' q,Same H H'→H q=none→aJ H' q (l.take (Rc81.room_ m))→Q (.ref q) H'
theorem jU{f:Addr}{fd:FuncData}(F:Fun K "first_numbers" "first_numbers" gO f fd)(T:di K mg):FnOk P w K mg base CX0 1 f fd ["numbers","most"] cB:=by
 refine F.ok scFirstNumbers (fun vs H Q E h=>?_) (fun cdv Ar outer s H vs Q E hr h=>?_)
 ·obtain⟨a,l,m,rfl,_⟩:=h
  rfl
 ·obtain⟨a,l,m,rfl,hl,l16,k⟩:=h
  have nd:=scFirstNumbers.nd
  obtain⟨t1,hp⟩:=T.points
  refine⟨_,af (aQ (PW.pt (gy (aH vE (pv 1) az (nomark _)) (eW (aH oe (pv 1) (aD (v:= .int 16) rfl hp ⟨t1,rfl⟩) (nomark _))))) (aj (au (aP ai))) aG) (aj (au (kY (oY) (pv 0) vm (kD (pv 1))))),?_⟩
  have empty:(m<1∨16<m)→∀ p,H p=none→Q (.ref p) (upd H p (.lst [])):=fun h p hp=>by
   refine k _ p (Same.new hp) hp ?_
   have:Rc81.room_ m=0:=by
    unfold Rc81.room_ Rc81.MOST
    rw[if_neg (by omega)]
   rw[this,List.take_zero]
   exact ah
  refine⟨_,rfl,_,_,rfl,rfl,_,rfl,?_⟩
  refine aK (fun hc=>?_) (fun hc=>?_)
  ·refine aK (fun _=>?_) (fun z=>absurd rfl z)
   exact⟨zero_le _,empty (.inl (of_decide_eq_true hc))⟩
  ·have h1:¬ m<1:=by simpa using hc
   refine⟨_,rfl,_,_,rfl,rfl,_,rfl,?_⟩
   refine aK (fun hc=>?_) (fun hc=>?_)
   ·exact⟨zero_le _,empty (.inr (of_decide_eq_true hc))⟩
   ·have h2:¬ 16<m:=by simpa using hc
    refine⟨_,rfl,_,rfl,m,rfl,a,_,rfl,SqL.of hl,fun p hp=>?_⟩
    refine k _ p (Same.new hp) hp ?_
    show upd _ p _ p=_
    rw[ah]
    have:Rc81.room_ m=m.toNat:=by
     unfold Rc81.room_ Rc81.MOST
     rw[if_pos (by omega)]
    rw[this]
    have e2:=HT.sIx_nat (nums l).length (nums l).length m.toNat
    rw[show((m.toNat:Nat):Int)=m by omega]at e2
    unfold oX
    rw[e2,HT.sIx_none,List.drop_zero,Nat.sub_zero]
    unfold nums
    rw[List.map_take,← List.take_eq_take_min]
end
theorem bh{H:Hp}{z:Int}{Q:VK}(h:∀ q,H q=none→Q (.ref q) (upd H q (.lst ([z].map V.int)))):[V.int z].length≤sizeLine∧∀ q,H q=none→Q (.ref q) (upd H q (.lst [V.int z])):=⟨le_of_lt (aC (show 1≤1000 by decide)),h⟩
theorem uP{H:Hp}{z y:Int}{Q:VK}(h:∀ q,H q=none→Q (.ref q) (upd H q (.lst ([z,y].map V.int)))):[V.int z,V.int y].length≤sizeLine∧∀ q,H q=none→Q (.ref q) (upd H q (.lst [V.int z,V.int y])):=⟨le_of_lt (aC (show 2≤1000 by decide)),h⟩
theorem Does.st{H:Hp}{Q:VK}{g:Addr}{s:Abs}{X:List Addr}{c:Call}(D:Does H Q g s X c):StAt H g s X:=D.1
theorem Does.told{H H3:Hp}{Q:VK}{g:Addr}{s:Abs}{X:List Addr}{c:Call}(D:Does H Q g s X c){a:Rc81.Ans}(e:Rc81.does s c=(s,a))(sH:Same H H3){q:Addr}(hq:H3 q=none){l:List Int}(hl:l=GS.said a):Q (.ref q) (upd H3 q (.lst (l.map V.int))):=
 D.ans e (sH.trans (Same.new hq)) (sH.free hq) hl ah
theorem upTo_iff{z:Int}{n:Nat}:Rc81.upTo z n=true↔0≤z∧z≤n:=by simp[Rc81.upTo]
theorem vC{z:Int}{n:Nat}(h:¬(0≤z∧z≤n)):Rc81.upTo z n=false:=by
 rw[← Bool.not_eq_true,upTo_iff]
 exact h
theorem below_iff{z:Int}{n:Nat}:Rc81.below z n=true↔0≤z∧z<n:=by simp[Rc81.below]
section
abbrev yz:Stmt:=top 82
theorem scBegin:ax ["graphs"] ["graphs"] (ak yz):=fsc
def uW:Sp:=fun vs H Q _=>∃(g:Addr) (s:Abs) (X:List Addr),vs=[.ref g]∧Does H Q g s X .init
theorem yG{f:Addr}{fd:FuncData}(F:Fun K "begin" "begin" yz f fd)(T:di K mg):FnOk P w K mg base CX0 1 f fd ["graphs"] uW:=by
 refine F.ok scBegin (fun vs H Q E h=>?_) (fun cdv Ar outer s H vs Q E hr h=>?_)
 ·obtain⟨g,s,X,rfl,_⟩:=h
  rfl
 ·obtain⟨g,st,X,rfl,D⟩:=h
  have nd:=scBegin.nd
  obtain⟨t1,hp⟩:=T.done
  refine⟨_,af (eP (aP ai) (eO (pv 0) az cE)) (af (eP (aP ai) (eO (pv 0) az cE)) (aj (au (aP (ae (aD (v:= .int 0) rfl hp ⟨t1,rfl⟩) ai))))),?_⟩
  obtain⟨a,b,as,bs,h1,h2,h3,h4,h5,rfl⟩:=D.st
  refine⟨zero_le _,fun p1 hp1=>⟨_,rfl,g,_,_,0,rfl,rfl,Same.new hp1 _ _ h1,rfl,?_⟩⟩
  have g1:g≠p1:=aL h1 hp1
  refine⟨zero_le _,fun p2 hp2=>⟨_,rfl,g,_,_,1,rfl,rfl,Same.new hp2 _ _ ah,rfl,?_⟩⟩
  have g2:g≠p2:=fun z=>by rw[← z,ah]at hp2;cases hp2
  have p12:p1≠p2:=fun z=>by rw[← z,ao g1.symm,ah]at hp2;cases hp2
  have hp2':H p2=none:=by
   rw[ao g2.symm]at hp2
   exact(Same.new hp1).free hp2
  refine bh fun q hq=>?_
  refine D.fin (X':=[g,p1,p2]) ⟨p1,p2,[],[],ah,⟨?_,rfl,fun i b r h=>by simp at h⟩,⟨?_,rfl,fun i b r h=>by simp at h⟩,nodup_nil,?_,rfl⟩ ⟨fun x o hx hh=>?_,fun x hx=>?_,fun x hx=>?_⟩ hq rfl
  ·show upd _ g _ p1=_
   rw[ao g1.symm,ao p12,ao g1.symm,ah]
   rfl
  ·show upd _ g _ p2=_
   rw[ao g2.symm,ah]
   rfl
  ·simp[g1,g2]
  ·have hg:x≠g:=fun z=>hx (by rw[z];exact mem_cons_self)
   rw[ao hg,ao (aL hh hp2'),ao hg,ao (aL hh hp1)]
   exact hh
  ·rcases mem_cons.mp hx with rfl|hx
   ·exact .inl mem_cons_self
   rcases mem_cons.mp hx with rfl|hx
   ·exact .inr hp1
   ·rw[mem_singleton.mp hx]
    exact .inr hp2'
  ·cases hh:H x with
   |none=>rfl
   |some o=>
    by_cases hg:x=g
    ·rw[hg,ah]at hx;cases hx
    ·rw[ao hg,ao (aL hh hp2'),ao hg,ao (aL hh hp1),hh]at hx
     cases hx
abbrev k7:Stmt:=top 83
theorem scLoneRow:ax ["n","other"] ["n"] (ak k7):=fsc
def oF:Sp:=fun vs H Q _=>∃ n:Nat,vs=[.int (n:Nat)]∧n≤16∧∀ H' q,Same H H'→H q=none→aJ H' q ((List.range n).map fun _=>0)→Q (.ref q) H'
theorem uE{f:Addr}{fd:FuncData}(F:Fun K "lone_row" "lone_row" k7 f fd)(T:Txt K mg):FnOk P w K mg base CX0 1 f fd ["n"] oF:=by
 refine F.ok scLoneRow (fun vs H Q E h=>?_) (fun cdv Ar outer s H vs Q E hr h=>?_)
 ·obtain⟨n,rfl,_⟩:=h
  rfl
 ·obtain⟨n,rfl,n16,k⟩:=h
  have nd:=scLoneRow.nd
  refine⟨_,aj (au (bL rfl nd (a5 rfl T.range (ae (pv 0) ai)) (aM (own:=[("other",1)]) (show bX ["n","other"] (ak k7) _ _=true by decide +kernel)) (fun _ _ _ _ _=>aA (i:=1) nd rfl (Or.inl rfl)) (fun _ _ _ _ _=>aU) (fun _ _ _ _ _=>az))),?_⟩
  refine⟨_,rfl,_,rfl,by omega,by omega,fun D hD=>?_⟩
  refine bA hD (bR 0 _) (Same.refl _) (fun i=>V.int ((0:Nat):Int)) (by omega) ?_ ?_
  ·intro i x H' C Nx hi sH hx cont
   exact⟨rfl,lcY (cont H' (Same.refl _))⟩
  ·intro H' sH hA
   refine k H' D sH hD ?_
   show H' D=_
   rw[hA,show((n:Nat):Int).toNat=n by omega]
   unfold nums
   rw[map_map]
   rfl
abbrev tL:Stmt:=top 84
theorem scGraph:ax ["graphs","g","n","point"] ["graphs","g","n"] (ak tL):=fsc
def uG:Sp:=fun vs H Q _=>∃(g:Addr) (s:Abs) (X:List Addr) (z n:Int),vs=[.ref g,.int z,.int n]∧Does H Q g s X (.graph z n)
theorem xi{f:Addr}{fd:FuncData}(F:Fun K "graph" "graph" tL f fd)(T:Txt K mg)(T2:di K mg){f1:Addr}{fd1:FuncData}(C1:Cal P w K mg base 1 "is_graph" ["g"] bD f1 fd1){f2:Addr}{fd2:FuncData}(C2:Cal P w K mg base 1 "lone_row" ["n"] oF f2 fd2):
  FnOk P w K mg base CX0 2 f fd ["graphs","g","n"] uG:=by
 refine F.ok scGraph (fun vs H Q E h=>?_) (fun cdv Ar outer s H vs Q E hr h=>?_)
 ·obtain⟨g,s,X,z,n,rfl,_⟩:=h
  rfl
 ·obtain⟨g,st,X,z,n,rfl,D⟩:=h
  have nd:=scGraph.nd
  obtain⟨t1,hp⟩:=T2.done
  obtain⟨t2,hm⟩:=T2.points
  obtain⟨t3,hf⟩:=T2.refused
  refine⟨_,af (aQ (PW.pt (gy (bV (bS (aq C1 hr (ae (pv 1) ai)))) (gy (aH vE (pv 2) az (nomark _)) (eW (aH oe (pv 2) (aD (v:= .int 16) rfl hm ⟨t2,rfl⟩) (nomark _)))))) (aj (au (aP (ae (aD (v:= .int (-1)) rfl hf ⟨t3,rfl⟩) ai)))) aG)
   (af (eP (bL rfl nd (a5 rfl T.range (ae (pv 2) ai)) (aM (own:=[("point",3)]) (show bX ["graphs","g","n","point"] (ak tL) _ _=true by decide +kernel)) (fun _ _ _ _ _=>aA (i:=3) nd rfl (Or.inl rfl)) (fun _ _ _ _ _=>aU) (fun _ _ _ _ _=>aq C2 hr (ae (pv 2) ai))) (eO (pv 0) (pv 1) cE))
   (aj (au (aP (ae (aD (v:= .int 0) rfl hp ⟨t1,rfl⟩) ai))))),?_⟩
  have no:(Rc81.isWhich z&&Rc81.upTo n Rc81.MOST)=false→∀ q,H q=none→Q (.ref q) (upd H q (.lst ([-1].map V.int))):=fun h q hq=>D.told (by show(if _ then _ else _)=_;rw[if_pos h]) (Same.refl _) hq rfl
  refine⟨_,rfl,z,rfl,_,rfl,?_⟩
  refine aK (fun hw=>?_) (fun hw=>?_)
  ·refine aK (fun _=>?_) (fun z=>absurd rfl z)
   exact bh (no (by rw[show Rc81.isWhich z=false by simpa using hw];rfl))
  ·have hw:Rc81.isWhich z=true:=by simpa using hw
   refine⟨_,rfl,_,_,rfl,rfl,_,rfl,?_⟩
   refine aK (fun hc=>?_) (fun hc=>?_)
   ·refine aK (fun _=>?_) (fun z=>absurd rfl z)
    have:n<0:=of_decide_eq_true hc
    exact bh (no (by rw[hw,vC (by unfold Rc81.MOST;omega)];rfl))
   ·have h0:¬ n<0:=by simpa using hc
    refine⟨_,rfl,_,_,rfl,rfl,_,rfl,?_⟩
    refine aK (fun hc=>?_) (fun hc=>?_)
    ·have:16<n:=of_decide_eq_true hc
     exact bh (no (by rw[hw,vC (by unfold Rc81.MOST;omega)];rfl))
    ·have h1:¬ 16<n:=by simpa using hc
     have hu:Rc81.upTo n Rc81.MOST=true:=upTo_iff.mpr (by unfold Rc81.MOST;omega)
     have ed:Rc81.does st (.graph z n)=(st.put z (Rc81.drawn n.toNat fun _ _=>false),{value:=0 }):=by
      show(if _ then _ else _)=_
      rw[if_neg (by rw[hw,hu];decide)]
     refine⟨_,rfl,_,rfl,by omega,by omega,fun Dd hD=>?_⟩
     refine mH hD (bR 0 _) (Same.refl _) (mat n.toNat (GS.E (Rc81.drawn n.toNat fun _ _=>false))) (by rw[aE]) (by omega) ?_ ?_
     ·intro i x H' C Nx r hi hr' sH hx cont
      have hin:i<n.toNat:=by omega
      rw[bM hin]at hr'
      cases hr'
      refine⟨rfl,lcY ⟨_,rfl,n.toNat,by rw[show((n.toNat:Nat):Int)=n by omega];rfl,by omega,fun H4 p s4 hp h4=>cont p H4 s4 hp ?_⟩⟩
      have e:((List.range n.toNat).map fun _=>0)=(List.range n.toNat).map (GS.E (Rc81.drawn n.toNat fun _ _=>false) i):=map_congr_left fun v _=>by
       unfold GS.E
       rw[GS.cu,Bool.and_false]
       rfl
      rw[← e]
      exact h4
     ·intro H2 ps s2 MP hnd hnew _
      obtain⟨l,j,X',h1,h2,h3,h4⟩:=D.st.put hw s2 (G:=Rc81.drawn n.toNat fun _ _=>false) ⟨MP,hD,hnd,hnew⟩
      refine⟨_,rfl,_,rfl,g,l,z,j,rfl,rfl,h1,h2,?_⟩
      refine bh fun q hq=>?_
      refine D.fin (X':=X') ?_ h4 hq (by rw[ed];rfl)
      rw[ed]
      exact h3
end
theorem dZ{α:Type}(n:Nat)(f:Nat→α)(u:Nat)(c:α):((List.range n).map f).set u c=(List.range n).map fun x=>if x=u then c else f x:=by
 refine ext_getElem? fun i=>?_
 rw[List.getElem?_set,List.getElem?_map,List.getElem?_map]
 by_cases hi:i<n
 ·rw[List.getElem?_range hi]
  by_cases e:u=i
  ·subst e
   rw[if_pos rfl,if_pos (by simpa using hi)]
   simp
  ·rw[if_neg e]
   simp[Ne.symm e]
 ·rw[List.getElem?_eq_none (by simpa using hi)]
  by_cases e:u=i
  ·subst e
   rw[if_pos rfl,if_neg (by simpa using hi)]
   rfl
  ·rw[if_neg e]
   rfl
theorem MatAt.row1{H:Hp}{a:Addr}{m:List (List Nat)}{as:List Addr}(M:MatAt H a m as)(hn:as.Nodup){i:Nat}{r:Addr}{row:List Nat}(hr:as[i]?=some r)(hm:m[i]?=some row)(row':List Nat):MatAt (upd H r (.lst (nums row'))) a (m.set i row') as:=by
 have hR:=M.row i r row hr hm
 obtain⟨hi,ei⟩:=List.getElem?_eq_some_iff.mp hr
 have ar:a≠r:=fun z=>by
  have h1:=M.lst
  rw[z,hR]at h1
  injection h1 with h1
  injection h1 with h1
  have h0:(as.map V.ref)[i]?=some (V.ref r):=bo hr
  rw[← h1]at h0
  obtain⟨x,_,hx⟩:=aX h0
  cases hx
 refine⟨by rw[ao ar];exact M.lst,by rw[length_set];exact M.len,fun j b q hj hq=>?_⟩
 by_cases e:j=i
 ·subst e
  rw[hr]at hj
  cases hj
  rw[List.getElem?_set_self (by rw[← M.len];exact hi)]at hq
  cases hq
  exact ah
 ·rw[List.getElem?_set_ne (Ne.symm e)]at hq
  have hb:b≠r:=fun z=>by
   obtain⟨hj1,hj2⟩:=List.getElem?_eq_some_iff.mp hj
   exact e (GS.eJ (q:=as) hn hj1 hi (by rw[bq hj1,bq hi,hj2,ei,z]))
  show upd H r _ b=_
  rw[ao hb]
  exact M.row j b q hj hq
theorem StAt.edit{H:Hp}{g:Addr}{s:Abs}{X:List Addr}(S:StAt H g s X){z:Int}(hz:Rc81.isWhich z=true)(h0:0<(s.at_ z).n):∃ l x xs,H g=some (.lst l)∧atI l z=some (.ref x)∧GrAt H x (s.at_ z) xs∧xs.Nodup∧
  ∀ H' G',(∀ y o,y∉xs→H y=some o→H' y=some o)→(∀ y,H' y=none→H y=none)→GrAt H' x G' xs→StAt H' g (s.put z G') X∧Kept H H' X X:=by
 obtain⟨a,b,as,bs,h1,h2,h3,h4,h5,rfl⟩:=S
 obtain⟨n1,n2,n3⟩:=nodup_append.mp h4
 have gas:g∉as:=fun z=>h5 (mem_cons_of_mem _ (mem_cons_of_mem _ (mem_append_left _ z)))
 have gbs:g∉bs:=fun z=>h5 (mem_cons_of_mem _ (mem_cons_of_mem _ (mem_append_right _ z)))
 have noRow:∀{x y:Addr} {G G2:Graph} {xs ys:List Addr},GrAt H x G xs→0<G.n→GrAt H y G2 ys→y∉xs:=fun {x y G G2 xs ys} M hG M2 hy=>by
  obtain⟨r,hr,e⟩:=GrAt.has M hy
  obtain⟨u,hu,rfl⟩:=mem_map.mp hr
  have:=M2.lst
  rw[e]at this
  injection this with this
  injection this with this
  have h0:(nums ((List.range G.n).map (GS.E G u)))[0]?=some (V.int ((GS.E G u 0:Nat):Int)):=by
   rw[List.getElem?_map,List.getElem?_map,List.getElem?_range hG]
   rfl
  rw[this]at h0
  obtain⟨q,_,hq⟩:=aX h0
  cases hq
 have oth:∀{H':Hp} {x y:Addr} {G G2:Graph} {xs ys:List Addr},(∀ y o,y∉xs→H y=some o→H' y=some o)→GrAt H x G xs→0<G.n→GrAt H y G2 ys→(∀ p∈ys,p∉xs)→GrAt H' y G2 ys:=fun hk M hG M2 hd=>⟨hk _ _ (noRow M hG M2) M2.lst,M2.len,fun i b r hb hr=>hk _ _ (hd b (mem_of_getElem? hb)) (M2.row i b r hb hr)⟩
 rcases which.mp hz with rfl|rfl
 ·refine⟨_,a,as,h1,rfl,h2,n1,fun H' G' hk hfree M=>⟨⟨a,b,as,bs,hk _ _ gas h1,M,oth hk h2 h0 h3 (fun p hp z=>n3 p z p hp rfl),h4,h5,rfl⟩,fun x o hx hh=>hk x o (fun z=>hx (mem_cons_of_mem _ (mem_cons_of_mem _ (mem_cons_of_mem _ (mem_append_left _ z))))) hh,fun x hx=> .inl hx,hfree⟩⟩
 ·refine⟨_,b,bs,h1,rfl,h3,n2,fun H' G' hk hfree M=>⟨⟨a,b,as,bs,hk _ _ gbs h1,oth hk h3 h0 h2 (fun p hp z=>n3 p hp p z rfl),M,h4,h5,rfl⟩,fun x o hx hh=>hk x o (fun z=>hx (mem_cons_of_mem _ (mem_cons_of_mem _ (mem_cons_of_mem _ (mem_append_right _ z))))) hh,fun x hx=> .inl hx,hfree⟩⟩
theorem yI(G:Graph){u v:Nat}(hu:u<G.n)(hv:v<G.n)(huv:u≠v)(c:Bool){k:Nat}(hk:k=if c=true then 1 else 0):((mat G.n (GS.E G)).set u (((List.range G.n).map (GS.E G u)).set v k)).set v (((List.range G.n).map (GS.E G v)).set u k)=mat G.n (GS.E (Rc81.drawn G.n fun x y=>if(x=u∧y=v)∨(x=v∧y=u)then c else Rc81.edge G x y)):=by
 unfold mat
 rw[dZ,dZ,dZ,dZ]
 refine map_congr_left fun x hx=>?_
 have hx:=mem_range.mp hx
 have ed:∀ y,y<G.n→GS.E (Rc81.drawn G.n fun x y=>if(x=u∧y=v)∨(x=v∧y=u)then c else Rc81.edge G x y) x y=if(x=u∧y=v)∨(x=v∧y=u)then k else GS.E G x y:=fun y hy=>by
  rw[hk]
  unfold GS.E
  rw[GS.cu,decide_eq_true hx,decide_eq_true hy]
  by_cases h:(x=u∧y=v)∨(x=v∧y=u)
  ·rw[if_pos h,if_pos h];rfl
  ·rw[if_neg h,if_neg h];rfl
 by_cases h1:x=v
 ·rw[if_pos h1]
  refine map_congr_left fun y hy=>?_
  rw[ed y (mem_range.mp hy)]
  subst h1
  by_cases h2:y=u
  ·rw[if_pos h2,if_pos (.inr ⟨rfl,h2⟩)]
  ·rw[if_neg h2,if_neg (fun z=>z.elim (fun q=>huv q.1.symm) (fun q=>h2 q.2))]
 ·rw[if_neg h1]
  by_cases h2:x=u
  ·rw[if_pos h2]
   refine map_congr_left fun y hy=>?_
   rw[ed y (mem_range.mp hy)]
   subst h2
   by_cases h3:y=v
   ·rw[if_pos h3,if_pos (.inl ⟨rfl,h3⟩)]
   ·rw[if_neg h3,if_neg (fun z=>z.elim (fun q=>h3 q.2) (fun q=>h1 q.1))]
  ·rw[if_neg h2]
   refine map_congr_left fun y hy=>?_
   rw[ed y (mem_range.mp hy),if_neg (fun z=>z.elim (fun q=>h2 q.1) (fun q=>h1 q.1))]
theorem kN(l:List Nat)(i k:Nat):(nums l).set i (V.int (k:Nat))=nums (l.set i k):=by
 unfold nums
 rw[List.map_set]
section
abbrev zO:Stmt:=top 85
theorem scEdge:ax ["graphs","g","u","v","on","mark","joined"] ["graphs","g","u","v","on"] (ak zO):=fsc
def yx:Sp:=fun vs H Q _=>∃(g:Addr) (s:Abs) (X:List Addr) (z u v on:Int),vs=[.ref g,.int z,.int u,.int v,.int on]∧Does H Q g s X (.edge z u v on)
theorem yY{f:Addr}{fd:FuncData}(F:Fun K "edge" "edge" zO f fd)(T2:di K mg){f1:Addr}{fd1:FuncData}(C1:Cal P w K mg base 2 "has_point" ["graphs","g","u"] eU f1 fd1):
  FnOk P w K mg base CX0 3 f fd ["graphs","g","u","v","on"] yx:=by
 refine F.ok scEdge (fun vs H Q E h=>?_) (fun cdv Ar outer s H vs Q E hr h=>?_)
 ·obtain⟨g,s,X,z,u,v,on,rfl,_⟩:=h
  rfl
 ·obtain⟨g,st,X,z,u,v,on,rfl,D⟩:=h
  have nd:=scEdge.nd
  obtain⟨t1,hp⟩:=T2.done
  obtain⟨t3,hf⟩:=T2.refused
  refine⟨_,af (aQ (PW.pt (gy (bV (bS (aq C1 hr (ae (pv 0) (ae (pv 1) (ae (pv 2) ai)))))) (gy (bV (bS (aq C1 hr (ae (pv 0) (ae (pv 1) (ae (pv 3) ai)))))) (eW (aH bE (pv 2) (pv 3) (nomark _)))))) (aj (au (aP (ae (aD (v:= .int (-1)) rfl hf ⟨t3,rfl⟩) ai)))) aG)
   (af (ay (i:=5) nd rfl (Or.inl rfl) (fw (aH bE (pv 4) az (nomark _)) az az))
   (af (ay (i:=6) nd rfl (Or.inl rfl) (aF (K:=K) rfl (pv 0) (pv 1)))
   (af (eP (pv 5) (eO (aF (K:=K) rfl (pv 6) (pv 2)) (pv 3) cE))
   (af (eP (pv 5) (eO (aF (K:=K) rfl (pv 6) (pv 3)) (pv 2) cE))
   (aj (au (aP (ae (aD (v:= .int 0) rfl hp ⟨t1,rfl⟩) ai)))))))),?_⟩
  have no:(Rc81.isWhich z&&(Rc81.below u (st.at_ z).n&&(Rc81.below v (st.at_ z).n&&u != v)))=false→∀ q,H q=none→Q (.ref q) (upd H q (.lst ([-1].map V.int))):=fun h q hq=>D.told (by show(if _ then _ else _)=_;rw[if_pos h]) (Same.refl _) hq rfl
  refine⟨_,rfl,_,rfl,_,rfl,g,st,X,z,u,rfl,D.st,_,rfl,?_⟩
  refine aK (fun hw=>?_) (fun hw=>?_)
  ·refine aK (fun _=>?_) (fun z=>absurd rfl z)
   have hw:(Rc81.isWhich z&&Rc81.below u (st.at_ z).n)=false:=(Bool.not_eq_true' _).mp hw
   exact bh (no (by rw[← Bool.and_assoc,hw];rfl))
  ·have hw:(Rc81.isWhich z&&Rc81.below u (st.at_ z).n)=true:=by simpa using hw
   obtain⟨hz,hu⟩:=(Bool.and_eq_true _ _▸hw:_∧_)
   refine⟨_,rfl,_,rfl,_,rfl,g,st,X,z,v,rfl,D.st,_,rfl,?_⟩
   refine aK (fun hw2=>?_) (fun hw2=>?_)
   ·refine aK (fun _=>?_) (fun z=>absurd rfl z)
    have hw2:(Rc81.isWhich z&&Rc81.below v (st.at_ z).n)=false:=(Bool.not_eq_true' _).mp hw2
    rw[hz,Bool.true_and]at hw2
    exact bh (no (by rw[hz,hu,hw2];rfl))
   ·have hw2:(Rc81.isWhich z&&Rc81.below v (st.at_ z).n)=true:=by simpa using hw2
    rw[hz,Bool.true_and]at hw2
    refine⟨_,rfl,_,rfl,rfl,_,rfl,?_⟩
    refine aK (fun hc=>?_) (fun hc=>?_)
    ·have huv:u=v:=V.int.inj (of_decide_eq_true hc)
     exact bh (no (by rw[hz,hu,hw2,huv];simp))
    ·have huv:u≠v:=fun q=>hc (by rw[q];exact decide_eq_true rfl)
     obtain⟨u0,u1⟩:=below_iff.mp hu
     obtain⟨v0,v1⟩:=below_iff.mp hw2
     obtain⟨l,x,xs,e1,e2,M,xnd,fin⟩:=D.st.edit hz (by omega)
     have eu:((u.toNat:Nat):Int)=u:=by omega
     have ev:((v.toNat:Nat):Int)=v:=by omega
     have lu:u.toNat<(st.at_ z).n:=by omega
     have lv:v.toNat<(st.at_ z).n:=by omega
     obtain⟨r,hr1,R1⟩:=M.at_ (bM lu)
     obtain⟨r2,hr2,R2⟩:=M.at_ (bM lv)
     have huv':u.toNat≠v.toNat:=by omega
     obtain⟨i1,i2⟩:=List.getElem?_eq_some_iff.mp hr1
     obtain⟨j1,j2⟩:=List.getElem?_eq_some_iff.mp hr2
     have rr:r2≠r:=fun q=>huv' (GS.eJ (q:=xs) xnd i1 j1 (by rw[bq i1,bq j1,i2,j2,q]))
     have xr:x≠r:=fun q=>by
      have:=M.lst
      rw[q,R1]at this
      injection this with this
      injection this with this
      have h0:(xs.map V.ref)[u.toNat]?=some (V.ref r):=bo hr1
      rw[← this]at h0
      obtain⟨y,_,hy⟩:=aX h0
      cases hy
     let ru:=(List.range (st.at_ z).n).map (GS.E (st.at_ z) u.toNat)
     let rv:=(List.range (st.at_ z).n).map (GS.E (st.at_ z) v.toNat)
     let H2:Nat→Hp:=fun k=>upd (upd H r (.lst ((nums ru).set v.toNat (V.int ((k:Nat):Int))))) r2 (.lst ((nums rv).set u.toNat (V.int ((k:Nat):Int))))
     have rest:∀ k:Nat,(k=if decide (on≠0)=true then 1 else 0)→∀ q,H2 k q=none→Q (.ref q) (upd (H2 k) q (.lst ([0].map V.int))):=by
      intro k hk q hq
      have ed:Rc81.does st (.edge z u v on)=(st.put z (Rc81.drawn (st.at_ z).n fun x y=>if(x=u.toNat∧y=v.toNat)∨(x=v.toNat∧y=u.toNat)then decide (on≠0)else Rc81.edge (st.at_ z) x y),{value:=0 }):=by
       show(if _ then _ else _)=_
       rw[if_neg (by rw[hz,hu,hw2];simp[huv])]
      have M2:=(M.row1 xnd hr1 (bM lu) (ru.set v.toNat k)).row1 (row:=rv) xnd hr2 (by rw[List.getElem?_set_ne huv'];exact bM lv) (rv.set u.toNat k)
      rw[yI (st.at_ z) lu lv huv' (decide (on≠0)) hk,← kN,← kN]at M2
      have free:∀ y,H2 k y=none→H y=none:=fun y hy=>by
       by_cases h2:y=r2
       ·rw[h2]at hy
        have:H2 k r2=some _:=ah
        rw[this]at hy;cases hy
       ·have e3:H2 k y=upd H r _ y:=ao h2
        rw[e3]at hy
        by_cases h1:y=r
        ·rw[h1,ah]at hy;cases hy
        ·rw[ao h1]at hy
         exact hy
      obtain⟨S2,K2⟩:=fin (H2 k) (Rc81.drawn (st.at_ z).n fun x y=>if(x=u.toNat∧y=v.toNat)∨(x=v.toNat∧y=u.toNat)then decide (on≠0)else Rc81.edge (st.at_ z) x y) (fun y o hy hh=>by
       show upd _ r2 _ y=_
       rw[ao (fun q=>hy (by rw[q];exact mem_of_getElem? hr2)),ao (fun q=>hy (by rw[q];exact mem_of_getElem? hr1))]
       exact hh) free M2
      refine D.fin (X':=X) ?_ K2 hq (by rw[ed];rfl)
      rw[ed]
      exact S2
     have x1:(upd H r (.lst ((nums ru).set v.toNat (V.int ((0:Nat):Int))))) x=some (.lst (xs.map V.ref)):=by rw[ao xr];exact M.lst
     have chain:∀ k:Nat,(upd H r (.lst ((nums ru).set v.toNat (V.int ((k:Nat):Int))))) x=some (.lst (xs.map V.ref))∧(upd H r (.lst ((nums ru).set v.toNat (V.int ((k:Nat):Int))))) r2=some (.lst (nums rv)):=fun k=>⟨by rw[ao xr];exact M.lst,by rw[ao rr];exact R2⟩
     have iu:atI (xs.map V.ref) u=some (V.ref r):=by rw[← eu];exact cn (bo hr1)
     have iv:atI (xs.map V.ref) v=some (V.ref r2):=by rw[← ev];exact cn (bo hr2)
     have ju:ixN (nums rv).length u=some u.toNat:=by
      have:=j9 (n:=(nums rv).length) (i:=u.toNat) (by simpa [rv]using lu)
      rw[eu]at this
      exact this
     have jv:ixN (nums ru).length v=some v.toNat:=by
      have:=j9 (n:=(nums ru).length) (i:=v.toNat) (by simpa [ru]using lv)
      rw[ev]at this
      exact this
     refine⟨_,rfl,rfl,_,rfl,?_⟩
     refine aK (fun hc=>?_) (fun hc=>?_)
     ·have h0:on=0:=V.int.inj (of_decide_eq_true hc)
      refine⟨_,rfl,_,rfl,g,l,_,_,rfl,rfl,SqL.of e1,e2,?_⟩
      refine⟨_,rfl,_,rfl,_,rfl,x,_,_,_,rfl,rfl,SqL.of M.lst,iu,_,rfl,r,_,_,_,rfl,rfl,R1,jv,?_⟩
      refine⟨_,rfl,_,rfl,_,rfl,x,_,_,_,rfl,rfl,SqL.of (chain 0).1,iv,_,rfl,r2,_,_,_,rfl,rfl,(chain 0).2,ju,?_⟩
      exact bh (rest 0 (by rw[h0];rfl))
     ·have h0:¬ on=0:=fun q=>hc (by rw[q];rfl)
      refine⟨_,rfl,_,rfl,g,l,_,_,rfl,rfl,SqL.of e1,e2,?_⟩
      refine⟨_,rfl,_,rfl,_,rfl,x,_,_,_,rfl,rfl,SqL.of M.lst,iu,_,rfl,r,_,_,_,rfl,rfl,R1,jv,?_⟩
      refine⟨_,rfl,_,rfl,_,rfl,x,_,_,_,rfl,rfl,SqL.of (chain 1).1,iv,_,rfl,r2,_,_,_,rfl,rfl,(chain 1).2,ju,?_⟩
      exact bh (rest 1 (by rw[decide_eq_true h0];rfl))
end
theorem xW(G:Graph)(u:Nat):(Rc81.near G u).length=GS.S G.n (GS.E G u):=by
 have h:=GS.iT G u fun _=>1
 have e:((Rc81.near G u).map fun _=>1).sum=(Rc81.near G u).length:=by
  induction Rc81.near G u with
  |nil=>rfl
  |cons a l ih=>rw[map_cons,sum_cons,ih,length_cons];omega
 rw[← e,h]
 exact GS.bF fun i _=>mul_one _
theorem tS(G:Graph):((mat G.n (GS.E G)).zipIdx.map fun x=>(x.1.map fun z=>1 - z).set x.2 0)=mat G.n (GS.E (Rc81.turned G)):=by
 refine ext_getElem? fun i=>?_
 rw[List.getElem?_map,List.getElem?_zipIdx]
 by_cases hi:i<G.n
 ·rw[bM hi,bM hi]
  show some ((((List.range G.n).map (GS.E G i)).map fun z=>1 - z).set (0+i) 0)=_
  rw[map_map,dZ,zero_add]
  congr 1
  refine map_congr_left fun v hv=>?_
  have hv:=mem_range.mp hv
  unfold Rc81.turned GS.E
  rw[GS.cu,decide_eq_true hi,decide_eq_true hv]
  by_cases e:v=i
  ·subst e
   simp
  ·rw[if_neg e]
   have:(i != v)=true:=by simpa using Ne.symm e
   rw[this]
   show 1 - (if Rc81.edge G i v=true then 1 else 0)=_
   cases Rc81.edge G i v<;>rfl
 ·rw[List.getElem?_eq_none (by rw[aE];omega),List.getElem?_eq_none (by rw[aE];omega)]
  rfl
section
abbrev vG:Stmt:=top 86
theorem scDegree:ax ["graphs","g","u"] ["graphs","g","u"] (ak vG):=fsc
def sA:Sp:=fun vs H Q _=>∃(g:Addr) (s:Abs) (X:List Addr) (z u:Int),vs=[.ref g,.int z,.int u]∧Does H Q g s X (.degree z u)
theorem wH{f:Addr}{fd:FuncData}(F:Fun K "degree" "degree" vG f fd)(T:Txt K mg)(T2:di K mg){f1:Addr}{fd1:FuncData}(C1:Cal P w K mg base 2 "has_point" ["graphs","g","u"] eU f1 fd1):
  FnOk P w K mg base CX0 3 f fd ["graphs","g","u"] sA:=by
 refine F.ok scDegree (fun vs H Q E h=>?_) (fun cdv Ar outer s H vs Q E hr h=>?_)
 ·obtain⟨g,s,X,z,u,rfl,_⟩:=h
  rfl
 ·obtain⟨g,st,X,z,u,rfl,D⟩:=h
  have nd:=scDegree.nd
  obtain⟨t3,hf⟩:=T2.refused
  refine⟨_,af (aQ (bV (bS (aq C1 hr (ae (pv 0) (ae (pv 1) (ae (pv 2) ai)))))) (aj (au (aP (ae (aD (v:= .int (-1)) rfl hf ⟨t3,rfl⟩) ai)))) aG)
   (aj (au (aP (ae (pj (K:=K) rfl rfl T.sum (aF (K:=K) rfl (aF (K:=K) rfl (pv 0) (pv 1)) (pv 2))) ai)))),?_⟩
  refine⟨_,rfl,_,rfl,_,rfl,g,st,X,z,u,rfl,D.st,_,rfl,?_⟩
  refine aK (fun hw=>?_) (fun hw=>?_)
  ·have hw:(Rc81.isWhich z&&Rc81.below u (st.at_ z).n)=false:=(Bool.not_eq_true' _).mp hw
   exact bh fun q hq=>D.told (by show(if _ then _ else _)=_;rw[if_pos hw]) (Same.refl _) hq rfl
  ·have hw:(Rc81.isWhich z&&Rc81.below u (st.at_ z).n)=true:=by simpa using hw
   have ed:Rc81.does st (.degree z u)=(st,{value:=((Rc81.near (st.at_ z) u.toNat).length:Nat) }):=by
    show(if _ then _ else _)=_
    rw[if_neg (by rw[hw];decide)]
   obtain⟨hz,hu⟩:=(Bool.and_eq_true _ _▸hw:_∧_)
   obtain⟨u0,u1⟩:=below_iff.mp hu
   obtain⟨l,x,xs,e1,e2,M⟩:=D.st.pick hz
   have lu:u.toNat<(st.at_ z).n:=by omega
   obtain⟨r,hr1,R1⟩:=M.at_ (bM lu)
   have iu:atI (xs.map V.ref) u=some (V.ref r):=by rw[← show((u.toNat:Nat):Int)=u by omega];exact cn (bo hr1)
   refine⟨_,rfl,_,rfl,g,l,_,_,rfl,rfl,SqL.of e1,e2,_,rfl,x,_,_,_,rfl,rfl,SqL.of M.lst,iu,r,_,rfl,SqL.of (by rw[← mJ];exact R1),?_⟩
   rw[gD]
   refine bh fun q hq=>D.told ed (Same.refl _) hq ?_
   unfold GS.said
   rw[xW]
   rfl
abbrev gT:Stmt:=top 87
theorem scTurnedRow:ax ["row","point","turned","mark"] ["row","point"] (ak gT):=fsc
def jC:Sp:=fun vs H Q _=>∃(a:Addr) (r:List Nat) (p:Nat),vs=[.ref a,.int (p:Nat)]∧aJ H a r∧p<r.length∧r.length≤16∧(∀ x∈r,x≤1)∧∀ H' q,Same H H'→H q=none→aJ H' q ((r.map fun z=>1 - z).set p 0)→Q (.ref q) H'
theorem qc{f:Addr}{fd:FuncData}(F:Fun K "turned_row" "turned_row" gT f fd):FnOk P w K mg base CX0 1 f fd ["row","point"] jC:=by
 refine F.ok scTurnedRow (fun vs H Q E h=>?_) (fun cdv Ar outer s H vs Q E hr h=>?_)
 ·obtain⟨a,r,p,rfl,_⟩:=h
  rfl
 ·obtain⟨a,r,p,rfl,ha,hp,l16,le,k⟩:=h
  have nd:=scTurnedRow.nd
  refine⟨_,af (dN (i:=2) rfl nd rfl rfl (gJ rfl rfl rfl (by decide +kernel)) (jf (K:=K) rfl (pv 0)) (aM (own:=[("mark",3)]) (show bX ["row","point","turned","mark"] (ak gT) _ _=true by decide +kernel)) (fun _ _ _ _ _=>aA (i:=3) nd rfl (Or.inl rfl)) (fun _ _ _ _ _=>aU) (fun _ _ _ _ _=>a0 i9 az (pv 3)))
   (af (eP az (eO (pv 2) (pv 1) cE)) (aj (au (pv 2)))),?_⟩
  refine⟨_,rfl,a,rfl,⟨_,SqL.of ha⟩,fun D hD=>?_⟩
  refine bA hD (aN (SqL.of ha)) (Same.refl _) (fun i=>V.int ((1 - r.getD i 0:Nat):Int)) (by rw[length_map];omega) ?_ ?_
  ·intro i x H' C Nx hi sH hx cont
   obtain⟨v,hv,hm,rfl⟩:=bc hx
   have e:r.getD i 0=v:=by rw[getD_eq_getElem?_getD,hv];rfl
   have:=le v hm
   rw[e,show((1 - v:Nat):Int)=1 - ((v:Nat):Int) by omega]at cont
   exact⟨rfl,lcY ⟨_,rfl,_,_,rfl,rfl,cont H' (Same.refl _)⟩⟩
  ·intro H1 s1 hA
   have eA:H1 D=some (.lst (nums (r.map fun z=>1 - z))):=by
    rw[hA,length_map,bY r 0 (fun v=>V.int ((1 - v:Nat):Int))]
    unfold nums
    rw[map_map]
    rfl
   refine⟨_,rfl,_,rfl,D,_,_,p,rfl,rfl,eA,j9 (by simpa using hp),?_⟩
   refine⟨_,rfl,k _ D (s1.put hD) hD ?_⟩
   show upd H1 D _ D=_
   rw[ah]
   exact congrArg (fun x=>some (HO.lst x)) (kN _ _ 0)
abbrev xK:Stmt:=top 88
theorem scTurn:ax ["graphs","g","joined","point"] ["graphs","g"] (ak xK):=fsc
def xN:Sp:=fun vs H Q _=>∃(g:Addr) (s:Abs) (X:List Addr) (z:Int),vs=[.ref g,.int z]∧Does H Q g s X (.turn z)
theorem yX{f:Addr}{fd:FuncData}(F:Fun K "turn" "turn" xK f fd)(T:Txt K mg)(T2:di K mg){f1:Addr}{fd1:FuncData}(C1:Cal P w K mg base 1 "is_graph" ["g"] bD f1 fd1){f2:Addr}{fd2:FuncData}(C2:Cal P w K mg base 1 "turned_row" ["row","point"] jC f2 fd2):
  FnOk P w K mg base CX0 2 f fd ["graphs","g"] xN:=by
 refine F.ok scTurn (fun vs H Q E h=>?_) (fun cdv Ar outer s H vs Q E hr h=>?_)
 ·obtain⟨g,s,X,z,rfl,_⟩:=h
  rfl
 ·obtain⟨g,st,X,z,rfl,D⟩:=h
  have nd:=scTurn.nd
  obtain⟨t1,hp⟩:=T2.done
  obtain⟨t3,hf⟩:=T2.refused
  refine⟨_,af (aQ (bV (bS (aq C1 hr (ae (pv 1) ai)))) (aj (au (aP (ae (aD (v:= .int (-1)) rfl hf ⟨t3,rfl⟩) ai)))) aG)
   (af (ay (i:=2) nd rfl (Or.inr rfl) (aF (K:=K) rfl (pv 0) (pv 1)))
   (af (eP (bL rfl nd (a5 rfl T.range (ae (aS (K:=K) rfl T.len (pv 2)) ai)) (aM (own:=[("point",3)]) (show bX ["graphs","g","joined","point"] (ak xK) _ _=true by decide +kernel)) (fun _ _ _ _ _=>aA (i:=3) nd rfl (Or.inl rfl)) (fun _ _ _ _ _=>aU) (fun _ _ _ _ _=>aq C2 hr (ae (aF (K:=K) rfl (pv 2) (pv 3)) (ae (pv 3) ai)))) (eO (pv 0) (pv 1) cE))
   (aj (au (aP (ae (aD (v:= .int 0) rfl hp ⟨t1,rfl⟩) ai)))))),?_⟩
  refine⟨_,rfl,z,rfl,_,rfl,?_⟩
  refine aK (fun hw=>?_) (fun hw=>?_)
  ·have hw:Rc81.isWhich z=false:=(Bool.not_eq_true' _).mp hw
   exact bh fun q hq=>D.told (by show(if _ then _ else _)=_;rw[if_pos hw]) (Same.refl _) hq rfl
  ·have hw:Rc81.isWhich z=true:=by simpa using hw
   have ed:Rc81.does st (.turn z)=(st.put z (Rc81.turned (st.at_ z)),{value:=0 }):=by
    show(if _ then _ else _)=_
    rw[if_neg (by rw[hw];decide)]
   obtain⟨l,x,xs,e1,e2,M⟩:=D.st.pick hw
   have n16:=(D.2.1.at_ z).2
   have ln:(xs.map V.ref).length=(st.at_ z).n:=by rw[length_map,M.len,aE]
   refine⟨_,rfl,_,rfl,g,l,_,_,rfl,rfl,SqL.of e1,e2,?_⟩
   refine⟨_,rfl,x,_,rfl,.inl (SqL.of M.lst),(((st.at_ z).n:Nat):Int),congrArg (fun z:Nat=>[V.int (z:Int)]) ln,by omega,by omega,fun Dd hD=>?_⟩
   have tn:(((st.at_ z).n:Nat):Int).toNat=(st.at_ z).n:=by omega
   refine mH hD (bR 0 _) (Same.refl _) (mat (st.at_ z).n (GS.E (Rc81.turned (st.at_ z)))) (by rw[aE,tn]) (by omega) ?_ ?_
   ·intro i y H' C Nx r hi hr' sH hy cont
    subst hy
    have hi':i<(st.at_ z).n:=by omega
    obtain⟨b,hb,R⟩:=M.at_ (bM hi')
    have ei:(0:Int)+(i:Nat)=((i:Nat):Int):=by omega
    refine⟨rfl,lcY ⟨_,rfl,_,rfl,x,_,_,_,rfl,rfl,SqL.of (sH _ _ M.lst),cQ (j:=i) ei (bo hb),_,rfl,b,_,i,congrArg (fun z:Int=>[V.ref b,V.int z]) ei,sH _ _ R,by simpa using hi',by simpa using n16,fun v hv=>?_,fun H4 p s4 hp h4=>cont p H4 s4 hp ?_⟩⟩
    ·obtain⟨t,_,rfl⟩:=mem_map.mp hv
     exact AI _ _ _
    ·rw[← tS,List.getElem?_map,List.getElem?_zipIdx,bM hi']at hr'
     have e3:=Option.some.inj hr'
     rw[← e3,zero_add]
     exact h4
   ·intro H2 ps s2 MP hnd hnew _
    obtain⟨l,j,X',h1,h2,h3,h4⟩:=D.st.put hw s2 (G:=Rc81.turned (st.at_ z)) ⟨MP,hD,hnd,hnew⟩
    refine⟨_,rfl,_,rfl,g,l,z,j,rfl,rfl,h1,h2,?_⟩
    refine bh fun q hq=>?_
    refine D.fin (X':=X') ?_ h4 hq (by rw[ed];rfl)
    rw[ed]
    exact h3
abbrev uL:Stmt:=top 89
theorem scSettle:ax ["graphs","g"] ["graphs","g"] (ak uL):=fsc
def r9:Sp:=fun vs H Q _=>∃(g:Addr) (s:Abs) (X:List Addr) (z:Int),vs=[.ref g,.int z]∧Does H Q g s X (.settle z)
theorem wx{f:Addr}{fd:FuncData}(F:Fun K "settle" "settle" uL f fd)(T2:di K mg){f1:Addr}{fd1:FuncData}(C1:Cal P w K mg base 1 "is_graph" ["g"] bD f1 fd1){f2:Addr}{fd2:FuncData}(C2:Cal P w K mg base 4 "form_of" ["joined"] qk f2 fd2):
  FnOk P w K mg base CX0 5 f fd ["graphs","g"] r9:=by
 refine F.ok scSettle (fun vs H Q E h=>?_) (fun cdv Ar outer s H vs Q E hr h=>?_)
 ·obtain⟨g,s,X,z,rfl,_⟩:=h
  rfl
 ·obtain⟨g,st,X,z,rfl,D⟩:=h
  have nd:=scSettle.nd
  have hr1:Room 1 _:=hr.mono (by decide)
  obtain⟨t1,hp⟩:=T2.done
  obtain⟨t3,hf⟩:=T2.refused
  refine⟨_,af (aQ (bV (bS (aq C1 hr1 (ae (pv 1) ai)))) (aj (au (aP (ae (aD (v:= .int (-1)) rfl hf ⟨t3,rfl⟩) ai)))) aG)
   (af (eP (aq C2 hr (ae (aF (K:=K) rfl (pv 0) (pv 1)) ai)) (eO (pv 0) (pv 1) cE))
   (aj (au (aP (ae (aD (v:= .int 0) rfl hp ⟨t1,rfl⟩) ai))))),?_⟩
  refine⟨_,rfl,z,rfl,_,rfl,?_⟩
  refine aK (fun hw=>?_) (fun hw=>?_)
  ·have hw:Rc81.isWhich z=false:=(Bool.not_eq_true' _).mp hw
   exact bh fun q hq=>D.told (by show(if _ then _ else _)=_;rw[if_pos hw]) (Same.refl _) hq rfl
  ·have hw:Rc81.isWhich z=true:=by simpa using hw
   have ed:Rc81.does st (.settle z)=(st.put z (Rc81.formOf (st.at_ z)),{value:=0 }):=by
    show(if _ then _ else _)=_
    rw[if_neg (by rw[hw];decide)]
   obtain⟨l,x,xs,e1,e2,M⟩:=D.st.pick hw
   have n7:(st.at_ z).n≤7:=D.2.2.1
   refine⟨_,rfl,_,rfl,g,l,_,_,rfl,rfl,SqL.of e1,e2,x,st.at_ z,xs,rfl,M,n7,(D.2.1.at_ z).1,fun H2 q qs s2 N=>?_⟩
   obtain⟨l,j,X',h1,h2,h3,h4⟩:=D.st.put hw s2 N
   refine⟨_,rfl,_,rfl,g,l,z,j,rfl,rfl,h1,h2,?_⟩
   refine bh fun q hq=>?_
   refine D.fin (X':=X') ?_ h4 hq (by rw[ed];rfl)
   rw[ed]
   exact h3
end
theorem wR{r:List Nat}{b q:Nat}:q∈marks r b↔b≤q∧q - b<r.length∧r.getD (q - b) 0=1:=by
 unfold marks
 rw[mem_map]
 constructor
 ·rintro⟨i,hi,rfl⟩
  obtain⟨h1,h2⟩:=mem_filter.mp hi
  rw[Nat.add_sub_cancel_left]
  exact⟨by omega,mem_range.mp h1,by simpa using h2⟩
 ·rintro⟨h1,h2,h3⟩
  exact⟨q - b,mem_filter.mpr ⟨mem_range.mpr h2,by simpa using h3⟩,by omega⟩
theorem pQ(G:Graph)(b p q:Nat):q∈(nbs (mat G.n (GS.E G)) b).getD p []↔p<G.n∧b≤q∧q - b<G.n∧Rc81.edge G p (q - b)=true:=by
 by_cases hp:p<G.n
 ·have:(nbs (mat G.n (GS.E G)) b).getD p []=marks ((List.range G.n).map (GS.E G p)) b:=by
   unfold nbs
   rw[getD_eq_getElem?_getD,List.getElem?_map,bM hp]
   rfl
  rw[this,wR,length_map,length_range]
  constructor
  ·rintro⟨h1,h2,h3⟩
   refine⟨hp,h1,h2,?_⟩
   rw[getD_eq_getElem?_getD,List.getElem?_map,List.getElem?_range h2]at h3
   have h3:GS.E G p (q - b)=1:=h3
   unfold GS.E at h3
   split at h3
   ·assumption
   ·cases h3
  ·rintro⟨_,h1,h2,h3⟩
   refine⟨h1,h2,?_⟩
   rw[getD_eq_getElem?_getD,List.getElem?_map,List.getElem?_range h2]
   show GS.E G p (q - b)=1
   unfold GS.E
   rw[if_pos h3]
 ·have:(nbs (mat G.n (GS.E G)) b).getD p []=[]:=by
   rw[getD_eq_getElem?_getD,List.getElem?_eq_none (by rw[cV,aE];omega)]
   rfl
  rw[this]
  simp[hp]
theorem pX{G:Graph}(fG:Rc81.Fine G):aI (nbs (mat G.n (GS.E G)) 0)=Rc81.edge G:=by
 funext p q
 unfold aI
 rw[Bool.eq_iff_iff,decide_eq_true_iff,pQ,Nat.sub_zero]
 exact⟨fun h=>h.2.2.2,fun h=>⟨(GS.kh fG h).1,by omega,(GS.kh fG h).2,h⟩⟩
theorem bZ{G H:Graph}(fG:Rc81.Fine G)(fH:Rc81.Fine H):aI (nb2 (mat G.n (GS.E G)) (mat H.n (GS.E H)))=GS.uadj G H:=by
 funext p q
 unfold aI
 rw[Bool.eq_iff_iff,decide_eq_true_iff,GS.uadj_iff]
 unfold nb2
 rw[aE]
 by_cases hp:p<G.n
 ·have:(nbs (mat G.n (GS.E G)) 0++nbs (mat H.n (GS.E H)) G.n).getD p []=(nbs (mat G.n (GS.E G)) 0).getD p []:=by
   rw[getD_eq_getElem?_getD,getD_eq_getElem?_getD,List.getElem?_append_left (by rw[cV,aE];exact hp)]
  rw[this,pQ,Nat.sub_zero]
  constructor
  ·rintro⟨h1,_,h2,h3⟩
   exact .inl ⟨h1,h2,h3⟩
  ·rintro(⟨h1,h2,h3⟩|⟨h1,_⟩)
   ·exact⟨h1,by omega,h2,h3⟩
   ·omega
 ·have:(nbs (mat G.n (GS.E G)) 0++nbs (mat H.n (GS.E H)) G.n).getD p []=(nbs (mat H.n (GS.E H)) G.n).getD (p - G.n) []:=by
   rw[getD_eq_getElem?_getD,getD_eq_getElem?_getD,List.getElem?_append_right (by rw[cV,aE];omega),cV,aE]
  rw[this,pQ]
  constructor
  ·rintro⟨h1,h2,h3,h4⟩
   exact .inr ⟨by omega,h2,h3,h4⟩
  ·rintro(⟨h1,_⟩|⟨h1,h2,h3,h4⟩)
   ·omega
   ·exact⟨(GS.kh fH h4).1,h2,h3,h4⟩
theorem eZ(G:Graph)(h:G.n≤16):Sq (mat G.n (GS.E G)):=⟨by rw[aE];exact h,fun r hr=>by
 obtain⟨u,_,rfl⟩:=mem_map.mp hr
 rw[aE]
 simp⟩
theorem pE(G:Graph):(nbs (mat G.n (GS.E G)) 0).length=G.n:=by rw[cV,aE]
theorem kx(G H:Graph):(nb2 (mat G.n (GS.E G)) (mat H.n (GS.E H))).length=G.n+H.n:=by rw[bW,aE,aE]
theorem rA{G:Graph}(fG:Rc81.Fine G)(h:G.n≤16):Self (mat G.n (GS.E G)):=⟨eZ G h,by rw[bZ fG fG,aE];exact GS.eC fG fG,by rw[bZ fG fG,aE];exact GS.rV G⟩
theorem kK(n:Nat)(l:List Nat):[V.int (n:Nat)]++nums l=(GS.said {value:=(n:Nat),numbers:=l }).map V.int:=by
 unfold GS.said nums
 rw[map_cons,map_map]
 rfl
theorem pd{G:Graph}{r:Nat}(s:GS.qb (Rc81.edge G) G.n r):((List.range G.n).map fun u=>V.int (GS.cs (Rc81.edge G) (List.range G.n) (fun _=>0) r u))=nums (Rc81.classesOf G):=by
 have:=congrArg (List.map V.int) (GS.qC s)
 rw[map_map,map_map]at this
 exact this.symm
theorem sJ(G:Graph):(Rc81.classesOf G).length=G.n:=by
 unfold Rc81.classesOf Rc81.points
 simp
section
abbrev qN:Stmt:=top 90
theorem scClasses:ax ["graphs","g","most","joined"] ["graphs","g","most"] (ak qN):=fsc
def oP:Sp:=fun vs H Q _=>∃(g:Addr) (s:Abs) (X:List Addr) (z m:Int),vs=[.ref g,.int z,.int m]∧Does H Q g s X (.classes z m)
theorem tY{f:Addr}{fd:FuncData}(F:Fun K "classes" "classes" qN f fd)(T:Txt K mg)(T2:di K mg){f1:Addr}{fd1:FuncData}(C1:Cal P w K mg base 1 "is_graph" ["g"] bD f1 fd1){f2:Addr}{fd2:FuncData}(C2:Cal P w K mg base 3 "least_alike" ["joined"] iZ f2 fd2){f3:Addr}{fd3:FuncData}(C3:Cal P w K mg base 1 "first_numbers" ["numbers","most"] cB f3 fd3):
  FnOk P w K mg base CX0 4 f fd ["graphs","g","most"] oP:=by
 refine F.ok scClasses (fun vs H Q E h=>?_) (fun cdv Ar outer s H vs Q E hr h=>?_)
 ·obtain⟨g,s,X,z,m,rfl,_⟩:=h
  rfl
 ·obtain⟨g,st,X,z,m,rfl,D⟩:=h
  have nd:=scClasses.nd
  have hr1:Room 1 _:=hr.mono (by decide)
  obtain⟨t3,hf⟩:=T2.refused
  refine⟨_,af (aQ (bV (bS (aq C1 hr1 (ae (pv 1) ai)))) (aj (au (aP (ae (aD (v:= .int (-1)) rfl hf ⟨t3,rfl⟩) ai)))) aG)
   (af (ay (i:=3) nd rfl (Or.inl rfl) (aF (K:=K) rfl (pv 0) (pv 1)))
   (aj (au (a0 jt (aP (ae (aS (K:=K) rfl T.len (pv 3)) ai)) (aq C3 hr1 (ae (aq C2 hr (ae (pv 3) ai)) (ae (pv 2) ai))))))),?_⟩
  refine⟨_,rfl,z,rfl,_,rfl,?_⟩
  refine aK (fun hw=>?_) (fun hw=>?_)
  ·have hw:Rc81.isWhich z=false:=(Bool.not_eq_true' _).mp hw
   exact bh fun q hq=>D.told (by show(if _ then _ else _)=_;rw[if_pos hw]) (Same.refl _) hq rfl
  ·have hw:Rc81.isWhich z=true:=by simpa using hw
   have ed:Rc81.does st (.classes z m)=(st,{value:=((st.at_ z).n:Nat),numbers:=(Rc81.classesOf (st.at_ z)).take (Rc81.room_ m) }):=by
    show(if _ then _ else _)=_
    rw[if_neg (by rw[hw];decide)]
   obtain⟨l,x,xs,e1,e2,M⟩:=D.st.pick hw
   obtain⟨fG,n16⟩:=D.2.1.at_ z
   have ln:(xs.map V.ref).length=(st.at_ z).n:=by rw[length_map,M.len,aE]
   obtain⟨r,r1,sr⟩:=GS.qe (GS.kc (st.at_ z))
   refine⟨_,rfl,_,rfl,g,l,_,_,rfl,rfl,SqL.of e1,e2,?_⟩
   refine⟨_,rfl,x,_,rfl,.inl (SqL.of M.lst),le_of_lt (aC (show 1≤1000 by decide)),fun p hp=>?_⟩
   rw[ln]
   have s1:=Same.new (o:= .lst [V.int ((st.at_ z).n:Nat)]) hp
   refine⟨_,rfl,x,_,xs,r,rfl,M.mono s1,eZ _ n16,by rw[pX fG,pE];exact sr,by omega,fun H2 q s2 hq hQ=>?_⟩
   rw[aE]at hQ
   have hQ:aJ H2 q (Rc81.classesOf (st.at_ z)):=by
    show H2 q=_
    rw[hQ,← pd sr]
    unfold csN
    rw[pX fG,pE]
   refine⟨_,rfl,q,_,m,rfl,hQ,by rw[sJ];exact n16,fun H3 q3 s3 hq3 hR=>?_⟩
   have s13:=(s1.trans s2).trans s3
   refine⟨p,q3,_,_,rfl,rfl,s3 _ _ (s2 _ _ ah),hR,?_,fun q4 hq4=>?_⟩
   ·rw[length_map]
    have:=GS.cY (Rc81.classesOf (st.at_ z)) m
    exact le_of_lt (aC (by rw[length_singleton];omega))
   ·rw[kK]
    exact D.told ed s13 hq4 rfl
abbrev u9:Stmt:=top 91
theorem scRounds:ax ["graphs","g"] ["graphs","g"] (ak u9):=fsc
def qS:Sp:=fun vs H Q _=>∃(g:Addr) (s:Abs) (X:List Addr) (z:Int),vs=[.ref g,.int z]∧Does H Q g s X (.rounds z)
theorem vO{f:Addr}{fd:FuncData}(F:Fun K "rounds" "rounds" u9 f fd)(T2:di K mg){f1:Addr}{fd1:FuncData}(C1:Cal P w K mg base 1 "is_graph" ["g"] bD f1 fd1){f2:Addr}{fd2:FuncData}(C2:Cal P w K mg base 3 "rounds_needed" ["joined"] fk f2 fd2):
  FnOk P w K mg base CX0 4 f fd ["graphs","g"] qS:=by
 refine F.ok scRounds (fun vs H Q E h=>?_) (fun cdv Ar outer s H vs Q E hr h=>?_)
 ·obtain⟨g,s,X,z,rfl,_⟩:=h
  rfl
 ·obtain⟨g,st,X,z,rfl,D⟩:=h
  have nd:=scRounds.nd
  have hr1:Room 1 _:=hr.mono (by decide)
  obtain⟨t3,hf⟩:=T2.refused
  refine⟨_,af (aQ (bV (bS (aq C1 hr1 (ae (pv 1) ai)))) (aj (au (aP (ae (aD (v:= .int (-1)) rfl hf ⟨t3,rfl⟩) ai)))) aG)
   (aj (au (aP (ae (aq C2 hr (ae (aF (K:=K) rfl (pv 0) (pv 1)) ai)) ai)))),?_⟩
  refine⟨_,rfl,z,rfl,_,rfl,?_⟩
  refine aK (fun hw=>?_) (fun hw=>?_)
  ·have hw:Rc81.isWhich z=false:=(Bool.not_eq_true' _).mp hw
   exact bh fun q hq=>D.told (by show(if _ then _ else _)=_;rw[if_pos hw]) (Same.refl _) hq rfl
  ·have hw:Rc81.isWhich z=true:=by simpa using hw
   have ed:Rc81.does st (.rounds z)=(st,{value:=(Rc81.roundsOf (st.at_ z):Nat) }):=by
    show(if _ then _ else _)=_
    rw[if_neg (by rw[hw];decide)]
   obtain⟨l,x,xs,e1,e2,M⟩:=D.st.pick hw
   obtain⟨fG,n16⟩:=D.2.1.at_ z
   obtain⟨r,r1,sr⟩:=GS.qe (GS.kc (st.at_ z))
   refine⟨_,rfl,_,rfl,g,l,_,_,rfl,rfl,SqL.of e1,e2,x,_,xs,r,rfl,M,eZ _ n16,by rw[pX fG,pE];exact sr,by omega,fun H2 s2=>?_⟩
   exact bh fun q hq=>D.told ed s2 hq (by unfold GS.said;rw[GS.sT sr];rfl)
end
section
abbrev yb:Stmt:=top 92
theorem scApart:ax ["graphs","u","v","depth"] ["graphs","u","v"] (ak yb):=fsc
def uM:Sp:=fun vs H Q _=>∃(g:Addr) (s:Abs) (X:List Addr) (u v:Int),vs=[.ref g,.int u,.int v]∧Does H Q g s X (.apart u v)
theorem xM{f:Addr}{fd:FuncData}(F:Fun K "apart" "apart" yb f fd)(T2:di K mg){f1:Addr}{fd1:FuncData}(C1:Cal P w K mg base 2 "has_point" ["graphs","g","u"] eU f1 fd1){f2:Addr}{fd2:FuncData}(C2:Cal P w K mg base 4 "depth_apart" ["first","second","u","v"] iW f2 fd2):
  FnOk P w K mg base CX0 5 f fd ["graphs","u","v"] uM:=by
 refine F.ok scApart (fun vs H Q E h=>?_) (fun cdv Ar outer s H vs Q E hr h=>?_)
 ·obtain⟨g,s,X,u,v,rfl,_⟩:=h
  rfl
 ·obtain⟨g,st,X,u,v,rfl,D⟩:=h
  have nd:=scApart.nd
  have hr1:Room 2 _:=hr.mono (by decide)
  obtain⟨t3,hf⟩:=T2.refused
  obtain⟨t4,hn⟩:=T2.there
  refine⟨_,af (aQ (PW.pt (gy (bV (bS (aq C1 hr1 (ae (pv 0) (ae az (ae (pv 1) ai)))))) (eW (bV (bS (aq C1 hr1 (ae (pv 0) (ae az (ae (pv 2) ai))))))))) (aj (au (aP (ae (aD (v:= .int (-1)) rfl hf ⟨t3,rfl⟩) ai)))) aG)
   (af (ay (i:=3) nd rfl (Or.inl rfl) (aq C2 hr (ae (aF (K:=K) rfl (pv 0) az) (ae (aF (K:=K) rfl (pv 0) az) (ae (pv 1) (ae (pv 2) ai))))))
   (aj (au (aP (ae (fw (cI (ub (pv 3))) (aD (v:= .int (-2)) rfl hn ⟨t4,rfl⟩) (pv 3)) ai))))),?_⟩
  have no:(Rc81.below u st.a.n&&Rc81.below v st.b.n)=false→∀ q,H q=none→Q (.ref q) (upd H q (.lst ([-1].map V.int))):=fun h q hq=>D.told (by show(if _ then _ else _)=_;rw[if_pos h]) (Same.refl _) hq rfl
  refine⟨_,rfl,_,rfl,g,st,X,0,u,rfl,D.st,_,rfl,?_⟩
  refine aK (fun hw=>?_) (fun hw=>?_)
  ·refine aK (fun _=>?_) (fun z=>absurd rfl z)
   have hw:Rc81.below u st.a.n=false:=(Bool.not_eq_true' _).mp hw
   exact bh (no (by rw[hw];rfl))
  ·have hu:Rc81.below u st.a.n=true:=by
    cases hb:Rc81.below u st.a.n with
    |true=>rfl
    |false=>exact absurd (show(!(Rc81.isWhich 0&&Rc81.below u st.a.n))=true by rw[hb];rfl) hw
   refine⟨_,rfl,_,rfl,g,st,X,1,v,rfl,D.st,_,rfl,?_⟩
   refine aK (fun hw2=>?_) (fun hw2=>?_)
   ·have hw2:Rc81.below v st.b.n=false:=(Bool.not_eq_true' _).mp hw2
    exact bh (no (by rw[hw2,Bool.and_false]))
   ·have hv:Rc81.below v st.b.n=true:=by
     cases hb:Rc81.below v st.b.n with
     |true=>rfl
     |false=>exact absurd (show(!(Rc81.isWhich 1&&Rc81.below v st.b.n))=true by rw[hb];rfl) hw2
    obtain⟨u0,u1⟩:=below_iff.mp hu
    obtain⟨v0,v1⟩:=below_iff.mp hv
    obtain⟨a,b,as,bs,h1,MA,MB,_,_,_⟩:=D.st
    obtain⟨fA,fB,nA,nB⟩:=D.2.1
    obtain⟨r,r1,sr⟩:=GS.qe (GS.j5 st.a st.b)
    have eu:((u.toNat:Nat):Int)=u:=by omega
    have ev:((v.toNat:Nat):Int)=v:=by omega
    have cse:∀ k x,csN (nb2 (mat st.a.n (GS.E st.a)) (mat st.b.n (GS.E st.b))) k x=GS.cs (GS.uadj st.a st.b) (List.range (st.a.n+st.b.n)) (fun _=>0) k x:=fun k x=>by
     unfold csN
     rw[bZ fA fB,kx]
    have ed:Rc81.does st (.apart u v)=match Rc81.apartOf st.a u.toNat st.b v.toNat with|some k=>(st,{value:=(k:Nat) })|none=>(st,{value:= -2 }):=by
     show(if _ then _ else _)=_
     rw[if_neg (by rw[hu,hv];decide)]
     rfl
    have lu:u.toNat<st.a.n:=by omega
    have lv:v.toNat<st.b.n:=by omega
    have A:=GS.wA sr lu lv
    refine⟨_,rfl,g,_,_,_,rfl,rfl,SqL.of h1,rfl,_,rfl,g,_,_,_,rfl,rfl,SqL.of h1,rfl,_,rfl,_,rfl,a,b,_,_,as,bs,u.toNat,v.toNat,r,by rw[eu,ev];rfl,MA,MB,eZ _ nA,eZ _ nB,by rw[aE];exact lu,by rw[aE];exact lv,by rw[bZ fA fB,kx];exact sr,by omega,fun al H2 s2=>?_,fun k hk ne eq H2 s2=>?_⟩
    ·refine⟨_,rfl,_,rfl,?_⟩
     refine aK (fun _=>?_) (fun z=>absurd rfl z)
     refine bh fun q hq=>D.told (a:={value:= -2 }) ?_ s2 hq rfl
     rcases A with⟨hA,_⟩|⟨k,hk,_,ne,_⟩
     ·rw[ed,hA]
     ·have:=al k hk
      rw[cse,cse,aE]at this
      exact absurd this ne
    ·refine⟨_,rfl,_,rfl,?_⟩
     refine aK (fun z=>by cases z) (fun _=>?_)
     refine⟨_,rfl,?_⟩
     refine bh fun q hq=>D.told (a:={value:=(k:Nat) }) ?_ s2 hq rfl
     rw[cse,cse,aE]at ne
     rcases A with⟨_,hA⟩|⟨k',hk',hA,ne',eq'⟩
     ·exact absurd (hA k hk) ne
     ·have:k'=k:=by
       rcases lt_trichotomy k' k with h|h|h
       ·have:=eq k' h
        rw[cse,cse,aE]at this
        exact absurd this ne'
       ·exact h
       ·exact absurd (eq' k h) ne
      rw[ed,hA,this]
abbrev qT:Stmt:=top 93
theorem scRefined:ax ["graphs"] ["graphs"] (ak qT):=fsc
def nM:Sp:=fun vs H Q _=>∃(g:Addr) (s:Abs) (X:List Addr),vs=[.ref g]∧Does H Q g s X .refined
theorem tR{f:Addr}{fd:FuncData}(F:Fun K "refined" "refined" qT f fd){f2:Addr}{fd2:FuncData}(C2:Cal P w K mg base 4 "even_graphs" ["first","second"] cy f2 fd2):
  FnOk P w K mg base CX0 5 f fd ["graphs"] nM:=by
 refine F.ok scRefined (fun vs H Q E h=>?_) (fun cdv Ar outer s H vs Q E hr h=>?_)
 ·obtain⟨g,s,X,rfl,_⟩:=h
  rfl
 ·obtain⟨g,st,X,rfl,D⟩:=h
  have nd:=scRefined.nd
  refine⟨_,aj (au (aP (ae (fw (cI (ub (aq C2 hr (ae (aF (K:=K) rfl (pv 0) az) (ae (aF (K:=K) rfl (pv 0) az) ai))))) az az) ai))),?_⟩
  obtain⟨a,b,as,bs,h1,MA,MB,_,_,_⟩:=D.st
  obtain⟨fA,fB,nA,nB⟩:=D.2.1
  have cse:∀ k,csN (nb2 (mat st.a.n (GS.E st.a)) (mat st.b.n (GS.E st.b))) k=GS.cs (GS.uadj st.a st.b) (List.range (st.a.n+st.b.n)) (fun _=>0) k:=fun k=>by
   unfold csN
   rw[bZ fA fB,kx]
  refine⟨_,rfl,g,_,_,_,rfl,rfl,SqL.of h1,rfl,_,rfl,g,_,_,_,rfl,rfl,SqL.of h1,rfl,a,b,_,_,as,bs,rfl,MA,MB,eZ _ nA,eZ _ nB,by rw[bZ fA fB,aE,aE];exact GS.eC fA fB,fun k hk H2 s2=>?_,fun k hk hs hd H2 q s2 hq=>?_⟩
  ·rw[cse,aE,aE]at hk
   have e:=GS.jK hk
   refine⟨_,rfl,?_⟩
   refine aK (fun _=>?_) (fun z=>absurd rfl z)
   refine bh fun q hq=>D.told (a:={value:=0 }) ?_ s2 hq rfl
   show(st,({value:=((Rc81.bit (Rc81.refinedOf st.a st.b):Nat):Int) }:Rc81.Ans))=_
   rw[e]
   rfl
  ·rw[cse,aE,aE]at hk
   rw[cse,aE,aE,bZ fA fB]at hs
   have e:=(GS.lZ (.inr (GS.tV hs))).mpr hk
   refine⟨_,rfl,?_⟩
   refine aK (fun z=>by cases z) (fun _=>?_)
   refine bh fun q hq=>D.told (a:={value:=1 }) ?_ s2 hq rfl
   show(st,({value:=((Rc81.bit (Rc81.refinedOf st.a st.b):Nat):Int) }:Rc81.Ans))=_
   rw[e]
   rfl
abbrev zP:Stmt:=top 94
theorem scSame:ax ["graphs","most","images"] ["graphs","most"] (ak zP):=fsc
def yl:Sp:=fun vs H Q _=>∃(g:Addr) (s:Abs) (X:List Addr) (m:Int),vs=[.ref g,.int m]∧Does H Q g s X (.same m)
theorem zu{f:Addr}{fd:FuncData}(F:Fun K "same" "same" zP f fd)(T:Txt K mg)(T2:di K mg){f2:Addr}{fd2:FuncData}(C2:Cal P w K mg base 56 "first_images" ["first","second"] gQ f2 fd2){f3:Addr}{fd3:FuncData}(C3:Cal P w K mg base 1 "first_numbers" ["numbers","most"] cB f3 fd3):
  FnOk P w K mg base CX0 57 f fd ["graphs","most"] yl:=by
 refine F.ok scSame (fun vs H Q E h=>?_) (fun cdv Ar outer s H vs Q E hr h=>?_)
 ·obtain⟨g,s,X,m,rfl,_⟩:=h
  rfl
 ·obtain⟨g,st,X,m,rfl,D⟩:=h
  have nd:=scSame.nd
  have hr1:Room 1 _:=hr.mono (by decide)
  obtain⟨t4,hn⟩:=T2.there
  refine⟨_,af (ay (i:=2) nd rfl (Or.inl rfl) (aq C2 hr (ae (aF (K:=K) rfl (pv 0) az) (ae (aF (K:=K) rfl (pv 0) az) ai))))
   (af (aQ (cI (ub (pv 2))) (aj (au (aP (ae (aD (v:= .int (-2)) rfl hn ⟨t4,rfl⟩) ai)))) aG)
   (aj (au (a0 jt (aP (ae (aS (K:=K) rfl T.len (pv 2)) ai)) (aq C3 hr1 (ae (pv 2) (ae (pv 1) ai))))))),?_⟩
  obtain⟨a,b,as,bs,h1,MA,MB,_,_,_⟩:=D.st
  obtain⟨fA,fB,nA,nB⟩:=D.2.1
  have cse:∀ k,csN (nb2 (mat st.a.n (GS.E st.a)) (mat st.b.n (GS.E st.b))) k=GS.cs (GS.uadj st.a st.b) (List.range (st.a.n+st.b.n)) (fun _=>0) k:=fun k=>by
   unfold csN
   rw[bZ fA fB,kx]
  have no:Rc81.mapOf st.a st.b=none→∀ H2,Same H H2→∀ q,H2 q=none→Q (.ref q) (upd H2 q (.lst ([-2].map V.int))):=fun e H2 s2 q hq=>D.told (a:={value:= -2 }) (by
   show(match Rc81.mapOf st.a st.b with|some p=>_|none=>_)=_
   rw[e]) s2 hq rfl
  refine⟨_,rfl,g,_,_,_,rfl,rfl,SqL.of h1,rfl,_,rfl,g,_,_,_,rfl,rfl,SqL.of h1,rfl,a,b,_,_,as,bs,rfl,MA,MB,eZ _ nA,eZ _ nB,by rw[bZ fA fB,aE,aE];exact GS.eC fA fB,fun k hk H2 s2=>?_,fun hk H2 s2=>?_,fun h F H2 q s2 hq hQ=>?_⟩
  ·rw[cse,aE,aE]at hk
   refine⟨_,rfl,_,rfl,?_⟩
   refine aK (fun _=>?_) (fun z=>absurd rfl z)
   exact bh (no (GS.pB (GS.jK hk)) H2 s2)
  ·rw[aE,aE,bZ fA fB]at hk
   refine⟨_,rfl,_,rfl,?_⟩
   refine aK (fun _=>?_) (fun z=>absurd rfl z)
   exact bh (no (GS.uq fA fB hk) H2 s2)
  ·rw[aE,aE,bZ fA fB]at F
   rw[aE]at hQ
   have e:=GS.tP fA fB F
   have ge:∀ u,u<st.a.n→st.a.n≤h u:=(GS.mp_iso.mp F.mp).2
   have hQ':aJ H2 q ((List.range st.a.n).map fun u=>h u - st.a.n):=by
    show H2 q=_
    rw[hQ]
    unfold nums
    rw[map_map]
    refine congrArg (fun x=>some (HO.lst x)) (map_congr_left fun u hu=>?_)
    have:=ge u (mem_range.mp hu)
    show V.int _=V.int _
    congr 1
    show(h u:Int) - (st.a.n:Int)=((h u - st.a.n:Nat):Int)
    omega
   refine⟨_,rfl,_,rfl,?_⟩
   refine aK (fun z=>by cases z) (fun _=>?_)
   have ln:((List.range st.a.n).map fun u=>V.int ((h u:Int) - (st.a.n:Int))).length=st.a.n:=by simp
   refine⟨_,rfl,q,_,rfl,.inl (SqL.of hQ),le_of_lt (aC (show 1≤1000 by decide)),fun p hp=>?_⟩
   rw[ln]
   have s3:=Same.new (o:= .lst [V.int (st.a.n:Nat)]) hp
   refine⟨_,rfl,_,rfl,q,_,m,rfl,s3 _ _ hQ',by simpa using nA,fun H4 q4 s4 hq4 hR=>?_⟩
   refine⟨p,q4,_,_,rfl,rfl,s4 _ _ ah,hR,?_,fun q5 hq5=>?_⟩
   ·rw[length_map]
    have:=GS.cY ((List.range st.a.n).map fun u=>h u - st.a.n) m
    exact le_of_lt (aC (by rw[length_singleton];omega))
   ·rw[kK]
    refine D.told ?_ ((s2.trans s3).trans s4) hq5 rfl
    show(match Rc81.mapOf st.a st.b with|some p=>_|none=>_)=_
    rw[e]
end
theorem oZ:LIM=Rc81.BIG:=by decide
theorem zy{X:Cx}{K:Frag}{e:Expr}{te:TE}{p pos:Pos}(hK:X.K=K)(hc:X.calm=true)(hm:X.mg "all"=none)(h:PE X e te)(hg:Gl X "all":=by rfl)(he:starEach [e] X.env=(false,eval e X.env)::starEach [] X.env:=by rfl)(hpl:(backTo pos (starEach [] X.env)).any (·.1)=false:=by rfl)(h0:starEach [e] X.env=(false,eval e X.env)::starEach [] X.env:=by rfl):
  PE X (.Call (.Name "all" p) [e] [] pos) (tCB (rAll K) (uK te zv)):=by
 subst hK
 exact bx (As hc) hg hm (by decide +kernel) (ae h ai h0) (by decide) (by decide) he hpl
section
abbrev rR:Stmt:=top 95
theorem scMovings:ax ["graphs","g"] ["graphs","g"] (ak rR):=fsc
def og:Sp:=fun vs H Q _=>∃(g:Addr) (s:Abs) (X:List Addr) (z:Int),vs=[.ref g,.int z]∧Does H Q g s X (.movings z)
theorem ud{f:Addr}{fd:FuncData}(F:Fun K "movings" "movings" rR f fd)(T2:di K mg){f1:Addr}{fd1:FuncData}(C1:Cal P w K mg base 1 "is_graph" ["g"] bD f1 fd1){f2:Addr}{fd2:FuncData}(C2:Cal P w K mg base 89 "count_movings" ["joined"] fS f2 fd2):
  FnOk P w K mg base CX0 90 f fd ["graphs","g"] og:=by
 refine F.ok scMovings (fun vs H Q E h=>?_) (fun cdv Ar outer s H vs Q E hr h=>?_)
 ·obtain⟨g,s,X,z,rfl,_⟩:=h
  rfl
 ·obtain⟨g,st,X,z,rfl,D⟩:=h
  have nd:=scMovings.nd
  have hr1:Room 1 _:=hr.mono (by decide)
  obtain⟨t1,hp⟩:=T2.done
  obtain⟨t3,hf⟩:=T2.refused
  refine⟨_,af (aQ (bV (bS (aq C1 hr1 (ae (pv 1) ai)))) (aj (au (aP (ae (aD (v:= .int (-1)) rfl hf ⟨t3,rfl⟩) ai)))) aG)
   (aj (au (aP (ae (aD (v:= .int 0) rfl hp ⟨t1,rfl⟩) (ae (aq C2 hr (ae (aF (K:=K) rfl (pv 0) (pv 1)) ai)) ai))))),?_⟩
  refine⟨_,rfl,z,rfl,_,rfl,?_⟩
  refine aK (fun hw=>?_) (fun hw=>?_)
  ·have hw:Rc81.isWhich z=false:=(Bool.not_eq_true' _).mp hw
   exact bh fun q hq=>D.told (by show(if _ then _ else _)=_;rw[if_pos hw]) (Same.refl _) hq rfl
  ·have hw:Rc81.isWhich z=true:=by simpa using hw
   have ed:Rc81.does st (.movings z)=(st,{value:=0,numbers:=[Rc81.movingsOf (st.at_ z)] }):=by
    show(if _ then _ else _)=_
    rw[if_neg (by rw[hw];decide)]
   obtain⟨l,x,xs,e1,e2,M⟩:=D.st.pick hw
   obtain⟨fG,n16⟩:=D.2.1.at_ z
   refine⟨_,rfl,_,rfl,g,l,_,_,rfl,rfl,SqL.of e1,e2,x,_,xs,rfl,M,rA fG n16,fun dd n H2 s2 hd hc=>?_⟩
   rw[bZ fG fG,aE]at hd hc
   have e:=GS.lJ fG hd hc
   exact uP fun q hq=>D.told ed s2 hq (by rw[e];rfl)
abbrev vn:Stmt:=top 96
theorem scOrbits:ax ["graphs","g","most","joined"] ["graphs","g","most"] (ak vn):=fsc
def sN:Sp:=fun vs H Q _=>∃(g:Addr) (s:Abs) (X:List Addr) (z m:Int),vs=[.ref g,.int z,.int m]∧Does H Q g s X (.orbits z m)
theorem vK{f:Addr}{fd:FuncData}(F:Fun K "orbits" "orbits" vn f fd)(T:Txt K mg)(T2:di K mg){f1:Addr}{fd1:FuncData}(C1:Cal P w K mg base 1 "is_graph" ["g"] bD f1 fd1){f2:Addr}{fd2:FuncData}(C2:Cal P w K mg base 55 "least_moved_on" ["joined"] iE f2 fd2){f3:Addr}{fd3:FuncData}(C3:Cal P w K mg base 1 "first_numbers" ["numbers","most"] cB f3 fd3):
  FnOk P w K mg base CX0 56 f fd ["graphs","g","most"] sN:=by
 refine F.ok scOrbits (fun vs H Q E h=>?_) (fun cdv Ar outer s H vs Q E hr h=>?_)
 ·obtain⟨g,s,X,z,m,rfl,_⟩:=h
  rfl
 ·obtain⟨g,st,X,z,m,rfl,D⟩:=h
  have nd:=scOrbits.nd
  have hr1:Room 1 _:=hr.mono (by decide)
  obtain⟨t3,hf⟩:=T2.refused
  refine⟨_,af (aQ (bV (bS (aq C1 hr1 (ae (pv 1) ai)))) (aj (au (aP (ae (aD (v:= .int (-1)) rfl hf ⟨t3,rfl⟩) ai)))) aG)
   (af (ay (i:=3) nd rfl (Or.inl rfl) (aF (K:=K) rfl (pv 0) (pv 1)))
   (aj (au (a0 jt (aP (ae (aS (K:=K) rfl T.len (pv 3)) ai)) (aq C3 hr1 (ae (aq C2 hr (ae (pv 3) ai)) (ae (pv 2) ai))))))),?_⟩
  refine⟨_,rfl,z,rfl,_,rfl,?_⟩
  refine aK (fun hw=>?_) (fun hw=>?_)
  ·have hw:Rc81.isWhich z=false:=(Bool.not_eq_true' _).mp hw
   exact bh fun q hq=>D.told (by show(if _ then _ else _)=_;rw[if_pos hw]) (Same.refl _) hq rfl
  ·have hw:Rc81.isWhich z=true:=by simpa using hw
   have ed:Rc81.does st (.orbits z m)=(st,{value:=((st.at_ z).n:Nat),numbers:=(Rc81.orbitsOf (st.at_ z)).take (Rc81.room_ m) }):=by
    show(if _ then _ else _)=_
    rw[if_neg (by rw[hw];decide)]
   obtain⟨l,x,xs,e1,e2,M⟩:=D.st.pick hw
   obtain⟨fG,n16⟩:=D.2.1.at_ z
   have ln:(xs.map V.ref).length=(st.at_ z).n:=by rw[length_map,M.len,aE]
   refine⟨_,rfl,_,rfl,g,l,_,_,rfl,rfl,SqL.of e1,e2,?_⟩
   refine⟨_,rfl,x,_,rfl,.inl (SqL.of M.lst),le_of_lt (aC (show 1≤1000 by decide)),fun p hp=>?_⟩
   rw[ln]
   have s1:=Same.new (o:= .lst [V.int ((st.at_ z).n:Nat)]) hp
   refine⟨_,rfl,x,_,xs,rfl,M.mono s1,rA fG n16,fun dd lf H2 q s2 hq hd hlf hQ=>?_⟩
   unfold Rp pcA lkN at hlf
   rw[aE]at hQ
   rw[bZ fG fG,aE]at hd hlf
   have eo:Rc81.orbitsOf (st.at_ z)=(List.range (st.at_ z).n).map lf:=GS.l9 fG hd (GS.jw (GS.eC fG fG).sym _) hlf
   rw[← eo]at hQ
   have lo:(Rc81.orbitsOf (st.at_ z)).length=(st.at_ z).n:=by rw[eo];simp
   refine⟨_,rfl,q,_,m,rfl,hQ,by rw[lo];exact n16,fun H3 q3 s3 hq3 hR=>?_⟩
   have s13:=(s1.trans s2).trans s3
   refine⟨p,q3,_,_,rfl,rfl,s3 _ _ (s2 _ _ ah),hR,?_,fun q4 hq4=>?_⟩
   ·rw[length_map]
    have:=GS.cY (Rc81.orbitsOf (st.at_ z)) m
    exact le_of_lt (aC (by rw[length_singleton];omega))
   ·rw[kK]
    exact D.told ed s13 hq4 rfl
abbrev oN:Stmt:=top 97
theorem scHasSteps:ax ["k"] ["k"] (ak oN):=fsc
def g0:Sp:=fun vs H Q _=>∃ z:Int,vs=[.int z]∧Q (.bl (Rc81.upTo z Rc81.STEPS)) H
theorem rW{f:Addr}{fd:FuncData}(F:Fun K "has_steps" "has_steps" oN f fd)(T2:di K mg):FnOk P w K mg base CX0 1 f fd ["k"] g0:=by
 refine F.ok scHasSteps (fun vs H Q E h=>?_) (fun cdv Ar outer s H vs Q E hr h=>?_)
 ·obtain⟨z,rfl,_⟩:=h
  rfl
 ·obtain⟨z,rfl,k⟩:=h
  have nd:=scHasSteps.nd
  obtain⟨t,ht⟩:=T2.steps
  refine⟨_,aj (au (lV (cD nZ az (pv 0) (nomark _)) (mN (cD nZ (pv 0) (aD (v:= .int 64) rfl ht ⟨t,rfl⟩) (nomark _))))),?_⟩
  refine⟨_,rfl,_,_,rfl,rfl,_,rfl,?_⟩
  unfold Rc81.upTo at k
  refine aK (fun h0=>?_) (fun h0=>?_)
  ·rw[h0,Bool.true_and]at k
   exact⟨_,rfl,_,_,rfl,rfl,k⟩
  ·rw[Bool.not_eq_true]at h0
   rw[h0,Bool.false_and]at k
   exact k
abbrev xX:Stmt:=top 98
theorem scWalks:ax ["graphs","g","k"] ["graphs","g","k"] (ak xX):=fsc
def uR:Sp:=fun vs H Q _=>∃(g:Addr) (s:Abs) (X:List Addr) (z k:Int),vs=[.ref g,.int z,.int k]∧Does H Q g s X (.walks z k)
theorem ye{f:Addr}{fd:FuncData}(F:Fun K "walks" "walks" xX f fd)(T2:di K mg){f1:Addr}{fd1:FuncData}(C1:Cal P w K mg base 1 "is_graph" ["g"] bD f1 fd1){f2:Addr}{fd2:FuncData}(C2:Cal P w K mg base 1 "has_steps" ["k"] g0 f2 fd2){f3:Addr}{fd3:FuncData}(C3:Cal P w K mg base 5 "count_walks" ["joined","k"] ir f3 fd3):
  FnOk P w K mg base CX0 6 f fd ["graphs","g","k"] uR:=by
 refine F.ok scWalks (fun vs H Q E h=>?_) (fun cdv Ar outer s H vs Q E hr h=>?_)
 ·obtain⟨g,s,X,z,k,rfl,_⟩:=h
  rfl
 ·obtain⟨g,st,X,z,k,rfl,D⟩:=h
  have nd:=scWalks.nd
  have hr1:Room 1 _:=hr.mono (by decide)
  obtain⟨t1,hp⟩:=T2.done
  obtain⟨t3,hf⟩:=T2.refused
  refine⟨_,af (aQ (PW.pt (gy (bV (bS (aq C1 hr1 (ae (pv 1) ai)))) (eW (bV (bS (aq C2 hr1 (ae (pv 2) ai))))))) (aj (au (aP (ae (aD (v:= .int (-1)) rfl hf ⟨t3,rfl⟩) ai)))) aG)
   (aj (au (aP (ae (aD (v:= .int 0) rfl hp ⟨t1,rfl⟩) (ae (aq C3 hr (ae (aF (K:=K) rfl (pv 0) (pv 1)) (ae (pv 2) ai))) ai))))),?_⟩
  have no:(Rc81.isWhich z&&Rc81.upTo k Rc81.STEPS)=false→∀ q,H q=none→Q (.ref q) (upd H q (.lst ([-1].map V.int))):=fun h q hq=>D.told (by show(if _ then _ else _)=_;rw[if_pos h]) (Same.refl _) hq rfl
  refine⟨_,rfl,z,rfl,_,rfl,?_⟩
  refine aK (fun hw=>?_) (fun hw=>?_)
  ·have hw:Rc81.isWhich z=false:=(Bool.not_eq_true' _).mp hw
   refine aK (fun _=>?_) (fun z=>absurd rfl z)
   exact bh (no (by rw[hw];rfl))
  ·have hw:Rc81.isWhich z=true:=by simpa using hw
   refine⟨_,rfl,k,rfl,_,rfl,?_⟩
   refine aK (fun hk=>?_) (fun hk=>?_)
   ·have hk:Rc81.upTo k Rc81.STEPS=false:=(Bool.not_eq_true' _).mp hk
    exact bh (no (by rw[hk,Bool.and_false]))
   ·have hk:Rc81.upTo k Rc81.STEPS=true:=by simpa using hk
    have ed:Rc81.does st (.walks z k)=(st,{value:=0,numbers:=[Rc81.walksOf (st.at_ z) k.toNat % Rc81.BIG] }):=by
     show(if _ then _ else _)=_
     rw[if_neg (by rw[hw,hk];decide)]
    obtain⟨k0,k1⟩:=upTo_iff.mp hk
    have k2:k≤64:=k1
    obtain⟨l,x,xs,e1,e2,M⟩:=D.st.pick hw
    obtain⟨fG,n16⟩:=D.2.1.at_ z
    refine⟨_,rfl,_,rfl,g,l,_,_,rfl,rfl,SqL.of e1,e2,_,rfl,x,_,xs,k.toNat,by rw[show((k.toNat:Nat):Int)=k by omega];rfl,M,fG,n16,by omega,fun H2 s2=>?_⟩
    exact uP fun q hq=>D.told ed s2 hq (by rw[← oZ];rfl)
abbrev sk:Stmt:=top 99
theorem scCircles:ax ["graphs","g","k"] ["graphs","g","k"] (ak sk):=fsc
def nW:Sp:=fun vs H Q _=>∃(g:Addr) (s:Abs) (X:List Addr) (z k:Int),vs=[.ref g,.int z,.int k]∧Does H Q g s X (.circles z k)
theorem tw{f:Addr}{fd:FuncData}(F:Fun K "circles" "circles" sk f fd)(T2:di K mg){f1:Addr}{fd1:FuncData}(C1:Cal P w K mg base 1 "is_graph" ["g"] bD f1 fd1){f2:Addr}{fd2:FuncData}(C2:Cal P w K mg base 1 "has_steps" ["k"] g0 f2 fd2){f3:Addr}{fd3:FuncData}(C3:Cal P w K mg base 5 "count_circles" ["joined","k"] fu f3 fd3):
  FnOk P w K mg base CX0 6 f fd ["graphs","g","k"] nW:=by
 refine F.ok scCircles (fun vs H Q E h=>?_) (fun cdv Ar outer s H vs Q E hr h=>?_)
 ·obtain⟨g,s,X,z,k,rfl,_⟩:=h
  rfl
 ·obtain⟨g,st,X,z,k,rfl,D⟩:=h
  have nd:=scCircles.nd
  have hr1:Room 1 _:=hr.mono (by decide)
  obtain⟨t1,hp⟩:=T2.done
  obtain⟨t3,hf⟩:=T2.refused
  refine⟨_,af (aQ (PW.pt (gy (bV (bS (aq C1 hr1 (ae (pv 1) ai)))) (eW (bV (bS (aq C2 hr1 (ae (pv 2) ai))))))) (aj (au (aP (ae (aD (v:= .int (-1)) rfl hf ⟨t3,rfl⟩) ai)))) aG)
   (aj (au (aP (ae (aD (v:= .int 0) rfl hp ⟨t1,rfl⟩) (ae (aq C3 hr (ae (aF (K:=K) rfl (pv 0) (pv 1)) (ae (pv 2) ai))) ai))))),?_⟩
  have no:(Rc81.isWhich z&&Rc81.upTo k Rc81.STEPS)=false→∀ q,H q=none→Q (.ref q) (upd H q (.lst ([-1].map V.int))):=fun h q hq=>D.told (by show(if _ then _ else _)=_;rw[if_pos h]) (Same.refl _) hq rfl
  refine⟨_,rfl,z,rfl,_,rfl,?_⟩
  refine aK (fun hw=>?_) (fun hw=>?_)
  ·have hw:Rc81.isWhich z=false:=(Bool.not_eq_true' _).mp hw
   refine aK (fun _=>?_) (fun z=>absurd rfl z)
   exact bh (no (by rw[hw];rfl))
  ·have hw:Rc81.isWhich z=true:=by simpa using hw
   refine⟨_,rfl,k,rfl,_,rfl,?_⟩
   refine aK (fun hk=>?_) (fun hk=>?_)
   ·have hk:Rc81.upTo k Rc81.STEPS=false:=(Bool.not_eq_true' _).mp hk
    exact bh (no (by rw[hk,Bool.and_false]))
   ·have hk:Rc81.upTo k Rc81.STEPS=true:=by simpa using hk
    have ed:Rc81.does st (.circles z k)=(st,{value:=0,numbers:=[Rc81.circlesOf (st.at_ z) k.toNat % Rc81.BIG] }):=by
     show(if _ then _ else _)=_
     rw[if_neg (by rw[hw,hk];decide)]
    obtain⟨k0,k1⟩:=upTo_iff.mp hk
    have k2:k≤64:=k1
    obtain⟨l,x,xs,e1,e2,M⟩:=D.st.pick hw
    obtain⟨fG,n16⟩:=D.2.1.at_ z
    refine⟨_,rfl,_,rfl,g,l,_,_,rfl,rfl,SqL.of e1,e2,_,rfl,x,_,xs,k.toNat,by rw[show((k.toNat:Nat):Int)=k by omega];rfl,M,fG,n16,by omega,fun H2 s2=>?_⟩
    exact uP fun q hq=>D.told ed s2 hq (by rw[← oZ];rfl)
end
theorem oE(l:List Nat):Rc81.isTree l=((List.range l.length).map fun i=>decide (l.getD i 0≤i)).all id:=by
 unfold Rc81.isTree
 have e:l.zipIdx=(List.range l.length).map fun i=>(l.getD i 0,i):=by
  refine ext_getElem? fun i=>?_
  rw[List.getElem?_zipIdx,List.getElem?_map]
  by_cases hi:i<l.length
  ·rw[List.getElem?_range hi,List.getElem?_eq_getElem hi]
   show some (l[i],0+i)=some (l.getD i 0,i)
   rw[bq hi,zero_add]
  ·rw[List.getElem?_eq_none (by omega),List.getElem?_eq_none (by simpa using hi)]
   rfl
 rw[e,all_map,all_map]
 rfl
theorem wm{l:List Nat}(h:Rc81.isTree l=true){i:Nat}(hi:i<l.length):l.getD i 0≤i:=by
 rw[oE,all_map,all_eq_true]at h
 exact of_decide_eq_true (h i (mem_range.mpr hi))
section
abbrev pV:Stmt:=top 100
theorem scIsTree:ax ["hung","i"] ["hung"] (ak pV):=fsc
def qr:Sp:=fun vs H Q _=>∃(b:Addr) (l:List Nat),vs=[.ref b]∧aJ H b l∧l.length≤15∧∀ H',Same H H'→Q (.bl (Rc81.isTree l)) H'
theorem wO{f:Addr}{fd:FuncData}(F:Fun K "is_tree" "is_tree" pV f fd)(T:Txt K mg)(T2:di K mg):FnOk P w K mg base CX0 1 f fd ["hung"] qr:=by
 refine F.ok scIsTree (fun vs H Q E h=>?_) (fun cdv Ar outer s H vs Q E hr h=>?_)
 ·obtain⟨b,l,rfl,_⟩:=h
  rfl
 ·obtain⟨b,l,rfl,hb,l15,k⟩:=h
  have nd:=scIsTree.nd
  obtain⟨t,ht⟩:=T2.hung
  refine⟨_,aj (au (lV (cD nZ (aS (K:=K) rfl T.len (pv 0)) (aD (v:= .int 15) rfl ht ⟨t,rfl⟩) (nomark _)) (mN (zy (K:=K) rfl rfl T.all
   (bL rfl nd (a5 rfl T.range (ae (aS (K:=K) rfl T.len (pv 0)) ai)) (aM (own:=[("i",1)]) (show bX ["hung","i"] (ak pV) _ _=true by decide +kernel)) (fun _ _ _ _ _=>aA (i:=1) nd rfl (Or.inl rfl)) (fun _ _ _ _ _=>aU) (fun _ _ _ _ _=>lV (cD nZ az (aF (K:=K) rfl (pv 0) (pv 1)) (nomark _)) (mN (cD nZ (aF (K:=K) rfl (pv 0) (pv 1)) (pv 1) (nomark _))))))))),?_⟩
  have ln:(nums l).length=l.length:=length_map ..
  refine⟨_,rfl,b,_,rfl,.inl (SqL.of hb),_,_,rfl,rfl,_,rfl,?_⟩
  refine aK (fun _=>?_) (fun z=>absurd (decide_eq_true (show(((nums l).length:Nat):Int)≤15 by omega)) z)
  refine⟨_,rfl,b,_,rfl,.inl (SqL.of hb),((l.length:Nat):Int),congrArg (fun z:Nat=>[V.int (z:Int)]) ln,by omega,by omega,fun D hD=>?_⟩
  have tn:((l.length:Nat):Int).toNat=l.length:=by omega
  refine bA hD (bR 0 _) (Same.refl _) (fun i=>V.bl (decide (l.getD i 0≤i))) (by omega) ?_ ?_
  ·intro i x H' C Nx hi sH hx cont
   subst hx
   rw[tn]at hi
   have ei:(0:Int)+(i:Nat)=((i:Nat):Int):=by omega
   have hg:(nums l)[i]?=some (V.int ((l.getD i 0:Nat):Int)):=by
    rw[List.getElem?_map,List.getElem?_eq_getElem hi,bq hi]
    rfl
   have hb':=SqL.of (K:=K) (sH _ _ hb)
   refine⟨rfl,lcY ⟨_,rfl,_,rfl,b,_,_,_,rfl,rfl,hb',cQ (j:=i) ei hg,_,_,rfl,rfl,_,rfl,?_⟩⟩
   refine aK (fun _=>?_) (fun z=>absurd (decide_eq_true (show(0:Int)≤((l.getD i 0:Nat):Int) by omega)) z)
   refine⟨_,rfl,_,rfl,b,_,_,_,rfl,rfl,hb',cQ (j:=i) ei hg,_,rfl,_,_,rfl,rfl,?_⟩
   have e:decide (((l.getD i 0:Nat):Int)≤0+(i:Nat))=decide (l.getD i 0≤i):=by
    rw[Bool.eq_iff_iff,decide_eq_true_iff,decide_eq_true_iff]
    omega
   show C (V.bl (decide (((l.getD i 0:Nat):Int)≤0+(i:Nat)))) H'
   rw[e]
   exact cont H' (Same.refl _)
  ·intro H' sH hA
   rw[tn]at hA
   refine⟨D,(List.range l.length).map fun i=>decide (l.getD i 0≤i),rfl,SqL.of (by rw[hA,map_map];rfl),?_⟩
   rw[← oE]
   exact k H' sH
abbrev ya:Stmt:=top 101
theorem scTrees:ax ["graphs","g","hung"] ["graphs","g","hung"] (ak ya):=fsc
def uV:Sp:=fun vs H Q _=>∃(g b:Addr) (s:Abs) (X:List Addr) (z:Int) (l:List Nat),vs=[.ref g,.int z,.ref b]∧aJ H b l∧l.length≤15∧Does H Q g s X (.trees z l l.length)
theorem wY{f:Addr}{fd:FuncData}(F:Fun K "trees" "trees" ya f fd)(T2:di K mg){f1:Addr}{fd1:FuncData}(C1:Cal P w K mg base 1 "is_graph" ["g"] bD f1 fd1){f2:Addr}{fd2:FuncData}(C2:Cal P w K mg base 1 "is_tree" ["hung"] qr f2 fd2){f3:Addr}{fd3:FuncData}(C3:Cal P w K mg base 3 "count_trees" ["joined","hung"] iJ f3 fd3):
  FnOk P w K mg base CX0 4 f fd ["graphs","g","hung"] uV:=by
 refine F.ok scTrees (fun vs H Q E h=>?_) (fun cdv Ar outer s H vs Q E hr h=>?_)
 ·obtain⟨g,b,s,X,z,l,rfl,_⟩:=h
  rfl
 ·obtain⟨g,b,st,X,z,l,rfl,hb,l15,D⟩:=h
  have nd:=scTrees.nd
  have hr1:Room 1 _:=hr.mono (by decide)
  obtain⟨t1,hp⟩:=T2.done
  obtain⟨t3,hf⟩:=T2.refused
  refine⟨_,af (aQ (PW.pt (gy (bV (bS (aq C1 hr1 (ae (pv 1) ai)))) (eW (bV (bS (aq C2 hr1 (ae (pv 2) ai))))))) (aj (au (aP (ae (aD (v:= .int (-1)) rfl hf ⟨t3,rfl⟩) ai)))) aG)
   (aj (au (aP (ae (aD (v:= .int 0) rfl hp ⟨t1,rfl⟩) (ae (aq C3 hr (ae (aF (K:=K) rfl (pv 0) (pv 1)) (ae (pv 2) ai))) ai))))),?_⟩
  have hup:Rc81.upTo ((l.length:Nat):Int) (Rc81.MOST - 1)=true:=upTo_iff.mpr (by unfold Rc81.MOST;omega)
  have hlen:(l.length==((l.length:Nat):Int).toNat)=true:=by simp
  have no:(Rc81.isWhich z&&Rc81.isTree l)=false→∀ H2,Same H H2→∀ q,H2 q=none→Q (.ref q) (upd H2 q (.lst ([-1].map V.int))):=fun h H2 s2 q hq=>D.told (by show(if _ then _ else _)=_;rw[if_pos (by rw[hup,hlen,Bool.true_and,Bool.true_and];exact h)]) s2 hq rfl
  refine⟨_,rfl,z,rfl,_,rfl,?_⟩
  refine aK (fun hw=>?_) (fun hw=>?_)
  ·have hw:Rc81.isWhich z=false:=(Bool.not_eq_true' _).mp hw
   refine aK (fun _=>?_) (fun z=>absurd rfl z)
   exact bh (no (by rw[hw];rfl) H (Same.refl _))
  ·have hw:Rc81.isWhich z=true:=by simpa using hw
   refine⟨_,rfl,b,l,rfl,hb,l15,fun H2 s2=>⟨_,rfl,?_⟩⟩
   refine aK (fun hk=>?_) (fun hk=>?_)
   ·have hk:Rc81.isTree l=false:=(Bool.not_eq_true' _).mp hk
    exact bh (no (by rw[hk,Bool.and_false]) H2 s2)
   ·have hk:Rc81.isTree l=true:=by simpa using hk
    have ed:Rc81.does st (.trees z l l.length)=(st,{value:=0,numbers:=[Rc81.treesOf l (st.at_ z) % Rc81.BIG] }):=by
     show(if _ then _ else _)=_
     rw[if_neg (by rw[hw,hk,hup,hlen];decide)]
    obtain⟨l',x,xs,e1,e2,M⟩:=D.st.pick hw
    obtain⟨fG,n16⟩:=D.2.1.at_ z
    refine⟨_,rfl,_,rfl,g,l',_,_,rfl,rfl,SqL.of (s2 _ _ e1),e2,_,rfl,x,b,_,xs,l,rfl,M.mono s2,n16,s2 _ _ hb,l15,fun i hi=>wm hk hi,fun H3 s3=>?_⟩
    exact uP fun q hq=>D.told ed (s2.trans s3) hq (by rw[← oZ];rfl)
end
inductive Ask:Int→List Int→Call→Prop
 |init:Ask 0 [] .init
 |graph (g n):Ask 1 [g,n] (.graph g n)
 |edge (g u v on):Ask 2 [g,u,v,on] (.edge g u v on)
 |degree (g u):Ask 3 [g,u] (.degree g u)
 |turn (g):Ask 4 [g] (.turn g)
 |settle (g):Ask 5 [g] (.settle g)
 |classes (g m):Ask 6 [g,m] (.classes g m)
 |rounds (g):Ask 7 [g] (.rounds g)
 |apart (u v):Ask 8 [u,v] (.apart u v)
 |refined:Ask 9 [] .refined
 |same (m):Ask 10 [m] (.same m)
 |movings (g):Ask 11 [g] (.movings g)
 |orbits (g m):Ask 12 [g,m] (.orbits g m)
 |walks (g k):Ask 13 [g,k] (.walks g k)
 |circles (g k):Ask 14 [g,k] (.circles g k)
 |trees (g:Int) (l:List Int):l.length≤15→(∀ z∈l,0≤z∧z≤255)→Ask 15 (g::(l.length:Int)::l) (.trees g (l.map Int.toNat) l.length)
theorem xx{rest t:List Int}{q:Call}(h:GS.Form rest q t):∃ op zs,rest=op::(zs++t)∧Ask op zs q:=by
 cases h with
 |init=>exact⟨_,_,rfl,.init⟩
 |graph g n=>exact⟨_,[g,n],rfl,.graph g n⟩
 |edge g u v on=>exact⟨_,[g,u,v,on],rfl,.edge g u v on⟩
 |degree g u=>exact⟨_,[g,u],rfl,.degree g u⟩
 |turn g=>exact⟨_,[g],rfl,.turn g⟩
 |settle g=>exact⟨_,[g],rfl,.settle g⟩
 |classes g m=>exact⟨_,[g,m],rfl,.classes g m⟩
 |rounds g=>exact⟨_,[g],rfl,.rounds g⟩
 |apart u v=>exact⟨_,[u,v],rfl,.apart u v⟩
 |refined=>exact⟨_,_,rfl,.refined⟩
 |same m=>exact⟨_,[m],rfl,.same m⟩
 |movings g=>exact⟨_,[g],rfl,.movings g⟩
 |orbits g m=>exact⟨_,[g,m],rfl,.orbits g m⟩
 |walks g k=>exact⟨_,[g,k],rfl,.walks g k⟩
 |circles g k=>exact⟨_,[g,k],rfl,.circles g k⟩
 |trees g l t h1 h2=>exact⟨_,g::(l.length:Int)::l,rfl,.trees g l h1 h2⟩
theorem tT{l:List Int}(h:∀ z∈l,0≤z∧z≤255):l.map V.int=nums (l.map Int.toNat):=by
 unfold nums
 rw[map_map]
 refine map_congr_left fun z hz=>?_
 show V.int z=V.int ((z.toNat:Nat):Int)
 have:=h z hz
 congr 1
 omega
section
abbrev uT:Stmt:=top 102
theorem scAnswer:ax ["graphs","call","numbers"] ["graphs","call","numbers"] (ak uT):=fsc
def sR:Sp:=fun vs H Q _=>∃(g nb:Addr) (s:Abs) (X:List Addr) (op:Int) (zs:List Int) (c:Call),vs=[.ref g,.int op,.ref nb]∧H nb=some (.lst (zs.map V.int))∧Ask op zs c∧Does H Q g s X c
structure Cals(P:Program)(w:World)(K:Frag)(mg:Str→Option Value)(base:Heap)(f:Nat→Addr)(fd:Nat→FuncData):Prop where
 c0:Cal P w K mg base 90 "begin" ["graphs"] uW (f 0) (fd 0)
 c1:Cal P w K mg base 90 "graph" ["graphs","g","n"] uG (f 1) (fd 1)
 c2:Cal P w K mg base 90 "edge" ["graphs","g","u","v","on"] yx (f 2) (fd 2)
 c3:Cal P w K mg base 90 "degree" ["graphs","g","u"] sA (f 3) (fd 3)
 c4:Cal P w K mg base 90 "turn" ["graphs","g"] xN (f 4) (fd 4)
 c5:Cal P w K mg base 90 "settle" ["graphs","g"] r9 (f 5) (fd 5)
 c6:Cal P w K mg base 90 "classes" ["graphs","g","most"] oP (f 6) (fd 6)
 c7:Cal P w K mg base 90 "rounds" ["graphs","g"] qS (f 7) (fd 7)
 c8:Cal P w K mg base 90 "apart" ["graphs","u","v"] uM (f 8) (fd 8)
 c9:Cal P w K mg base 90 "refined" ["graphs"] nM (f 9) (fd 9)
 c10:Cal P w K mg base 90 "same" ["graphs","most"] yl (f 10) (fd 10)
 c11:Cal P w K mg base 90 "movings" ["graphs","g"] og (f 11) (fd 11)
 c12:Cal P w K mg base 90 "orbits" ["graphs","g","most"] sN (f 12) (fd 12)
 c13:Cal P w K mg base 90 "walks" ["graphs","g","k"] uR (f 13) (fd 13)
 c14:Cal P w K mg base 90 "circles" ["graphs","g","k"] nW (f 14) (fd 14)
 c15:Cal P w K mg base 90 "trees" ["graphs","g","hung"] uV (f 15) (fd 15)
theorem wq{f:Addr}{fd:FuncData}(F:Fun K "answer" "answer" uT f fd)(T2:di K mg){fs:Nat→Addr}{fds:Nat→FuncData}(C:Cals P w K mg base fs fds):
  FnOk P w K mg base CX0 91 f fd ["graphs","call","numbers"] sR:=by
 refine F.ok scAnswer (fun vs H Q E h=>?_) (fun cdv Ar outer s H vs Q E hr h=>?_)
 ·obtain⟨g,nb,s,X,op,zs,c,rfl,_⟩:=h
  rfl
 ·obtain⟨g,nb,st,X,op,zs,c,rfl,hz,A,D⟩:=h
  have nd:=scAnswer.nd
  obtain⟨t0,h0⟩:=T2.c0
  obtain⟨t1,h1⟩:=T2.c1
  obtain⟨t2,h2⟩:=T2.c2
  obtain⟨t3,h3⟩:=T2.c3
  obtain⟨t4,h4⟩:=T2.c4
  obtain⟨t5,h5⟩:=T2.c5
  obtain⟨t6,h6⟩:=T2.c6
  obtain⟨t7,h7⟩:=T2.c7
  obtain⟨t8,h8⟩:=T2.c8
  obtain⟨t9,h9⟩:=T2.c9
  obtain⟨t10,h10⟩:=T2.c10
  obtain⟨t11,h11⟩:=T2.c11
  obtain⟨t12,h12⟩:=T2.c12
  obtain⟨t13,h13⟩:=T2.c13
  obtain⟨t14,h14⟩:=T2.c14
  refine⟨_,
   af (aQ (aH bE (pv 1) (aD (v:= .int 0) rfl h0 ⟨t0,rfl⟩) (nomark _)) (aj (au (aq C.c0 hr (ae (pv 0) ai)))) aG) (
   af (aQ (aH bE (pv 1) (aD (v:= .int 1) rfl h1 ⟨t1,rfl⟩) (nomark _)) (aj (au (aq C.c1 hr (ae (pv 0) (ae (aF (K:=K) rfl (pv 2) az) (ae (aF (K:=K) rfl (pv 2) az) ai)))))) aG) (
   af (aQ (aH bE (pv 1) (aD (v:= .int 2) rfl h2 ⟨t2,rfl⟩) (nomark _)) (aj (au (aq C.c2 hr (ae (pv 0) (ae (aF (K:=K) rfl (pv 2) az) (ae (aF (K:=K) rfl (pv 2) az) (ae (aF (K:=K) rfl (pv 2) az) (ae (aF (K:=K) rfl (pv 2) az) ai)))))))) aG) (
   af (aQ (aH bE (pv 1) (aD (v:= .int 3) rfl h3 ⟨t3,rfl⟩) (nomark _)) (aj (au (aq C.c3 hr (ae (pv 0) (ae (aF (K:=K) rfl (pv 2) az) (ae (aF (K:=K) rfl (pv 2) az) ai)))))) aG) (
   af (aQ (aH bE (pv 1) (aD (v:= .int 4) rfl h4 ⟨t4,rfl⟩) (nomark _)) (aj (au (aq C.c4 hr (ae (pv 0) (ae (aF (K:=K) rfl (pv 2) az) ai))))) aG) (
   af (aQ (aH bE (pv 1) (aD (v:= .int 5) rfl h5 ⟨t5,rfl⟩) (nomark _)) (aj (au (aq C.c5 hr (ae (pv 0) (ae (aF (K:=K) rfl (pv 2) az) ai))))) aG) (
   af (aQ (aH bE (pv 1) (aD (v:= .int 6) rfl h6 ⟨t6,rfl⟩) (nomark _)) (aj (au (aq C.c6 hr (ae (pv 0) (ae (aF (K:=K) rfl (pv 2) az) (ae (aF (K:=K) rfl (pv 2) az) ai)))))) aG) (
   af (aQ (aH bE (pv 1) (aD (v:= .int 7) rfl h7 ⟨t7,rfl⟩) (nomark _)) (aj (au (aq C.c7 hr (ae (pv 0) (ae (aF (K:=K) rfl (pv 2) az) ai))))) aG) (
   af (aQ (aH bE (pv 1) (aD (v:= .int 8) rfl h8 ⟨t8,rfl⟩) (nomark _)) (aj (au (aq C.c8 hr (ae (pv 0) (ae (aF (K:=K) rfl (pv 2) az) (ae (aF (K:=K) rfl (pv 2) az) ai)))))) aG) (
   af (aQ (aH bE (pv 1) (aD (v:= .int 9) rfl h9 ⟨t9,rfl⟩) (nomark _)) (aj (au (aq C.c9 hr (ae (pv 0) ai)))) aG) (
   af (aQ (aH bE (pv 1) (aD (v:= .int 10) rfl h10 ⟨t10,rfl⟩) (nomark _)) (aj (au (aq C.c10 hr (ae (pv 0) (ae (aF (K:=K) rfl (pv 2) az) ai))))) aG) (
   af (aQ (aH bE (pv 1) (aD (v:= .int 11) rfl h11 ⟨t11,rfl⟩) (nomark _)) (aj (au (aq C.c11 hr (ae (pv 0) (ae (aF (K:=K) rfl (pv 2) az) ai))))) aG) (
   af (aQ (aH bE (pv 1) (aD (v:= .int 12) rfl h12 ⟨t12,rfl⟩) (nomark _)) (aj (au (aq C.c12 hr (ae (pv 0) (ae (aF (K:=K) rfl (pv 2) az) (ae (aF (K:=K) rfl (pv 2) az) ai)))))) aG) (
   af (aQ (aH bE (pv 1) (aD (v:= .int 13) rfl h13 ⟨t13,rfl⟩) (nomark _)) (aj (au (aq C.c13 hr (ae (pv 0) (ae (aF (K:=K) rfl (pv 2) az) (ae (aF (K:=K) rfl (pv 2) az) ai)))))) aG) (
   af (aQ (aH bE (pv 1) (aD (v:= .int 14) rfl h14 ⟨t14,rfl⟩) (nomark _)) (aj (au (aq C.c14 hr (ae (pv 0) (ae (aF (K:=K) rfl (pv 2) az) (ae (aF (K:=K) rfl (pv 2) az) ai)))))) aG) (
   aj (au (aq C.c15 hr (ae (pv 0) (ae (aF (K:=K) rfl (pv 2) az) (ae (kY oY (pv 2) (kD az) vm) ai)))))))))))))))))))),?_⟩
  cases A with
  |init=>
   refine⟨_,rfl,rfl,_,rfl,?_⟩
   refine aK (fun _=>?_) (fun z=>absurd rfl z)
   exact⟨_,rfl,g,st,X,rfl,D⟩
  |graph g' n=>
   iterate 1
    refine⟨_,rfl,rfl,_,rfl,?_⟩
    refine aK (fun h=>absurd (V.int.inj (of_decide_eq_true h)) (by decide)) (fun _=>?_)
   refine⟨_,rfl,rfl,_,rfl,?_⟩
   refine aK (fun _=>?_) (fun z=>absurd rfl z)
   exact⟨_,rfl,_,rfl,nb,_,_,_,rfl,rfl,SqL.of hz,rfl,_,rfl,nb,_,_,_,rfl,rfl,SqL.of hz,rfl,g,st,X,g',n,rfl,D⟩
  |edge g' u v on=>
   iterate 2
    refine⟨_,rfl,rfl,_,rfl,?_⟩
    refine aK (fun h=>absurd (V.int.inj (of_decide_eq_true h)) (by decide)) (fun _=>?_)
   refine⟨_,rfl,rfl,_,rfl,?_⟩
   refine aK (fun _=>?_) (fun z=>absurd rfl z)
   exact⟨_,rfl,_,rfl,nb,_,_,_,rfl,rfl,SqL.of hz,rfl,_,rfl,nb,_,_,_,rfl,rfl,SqL.of hz,rfl,_,rfl,nb,_,_,_,rfl,rfl,SqL.of hz,rfl,_,rfl,nb,_,_,_,rfl,rfl,SqL.of hz,rfl,g,st,X,g',u,v,on,rfl,D⟩
  |degree g' u=>
   iterate 3
    refine⟨_,rfl,rfl,_,rfl,?_⟩
    refine aK (fun h=>absurd (V.int.inj (of_decide_eq_true h)) (by decide)) (fun _=>?_)
   refine⟨_,rfl,rfl,_,rfl,?_⟩
   refine aK (fun _=>?_) (fun z=>absurd rfl z)
   exact⟨_,rfl,_,rfl,nb,_,_,_,rfl,rfl,SqL.of hz,rfl,_,rfl,nb,_,_,_,rfl,rfl,SqL.of hz,rfl,g,st,X,g',u,rfl,D⟩
  |turn g'=>
   iterate 4
    refine⟨_,rfl,rfl,_,rfl,?_⟩
    refine aK (fun h=>absurd (V.int.inj (of_decide_eq_true h)) (by decide)) (fun _=>?_)
   refine⟨_,rfl,rfl,_,rfl,?_⟩
   refine aK (fun _=>?_) (fun z=>absurd rfl z)
   exact⟨_,rfl,_,rfl,nb,_,_,_,rfl,rfl,SqL.of hz,rfl,g,st,X,g',rfl,D⟩
  |settle g'=>
   iterate 5
    refine⟨_,rfl,rfl,_,rfl,?_⟩
    refine aK (fun h=>absurd (V.int.inj (of_decide_eq_true h)) (by decide)) (fun _=>?_)
   refine⟨_,rfl,rfl,_,rfl,?_⟩
   refine aK (fun _=>?_) (fun z=>absurd rfl z)
   exact⟨_,rfl,_,rfl,nb,_,_,_,rfl,rfl,SqL.of hz,rfl,g,st,X,g',rfl,D⟩
  |classes g' m=>
   iterate 6
    refine⟨_,rfl,rfl,_,rfl,?_⟩
    refine aK (fun h=>absurd (V.int.inj (of_decide_eq_true h)) (by decide)) (fun _=>?_)
   refine⟨_,rfl,rfl,_,rfl,?_⟩
   refine aK (fun _=>?_) (fun z=>absurd rfl z)
   exact⟨_,rfl,_,rfl,nb,_,_,_,rfl,rfl,SqL.of hz,rfl,_,rfl,nb,_,_,_,rfl,rfl,SqL.of hz,rfl,g,st,X,g',m,rfl,D⟩
  |rounds g'=>
   iterate 7
    refine⟨_,rfl,rfl,_,rfl,?_⟩
    refine aK (fun h=>absurd (V.int.inj (of_decide_eq_true h)) (by decide)) (fun _=>?_)
   refine⟨_,rfl,rfl,_,rfl,?_⟩
   refine aK (fun _=>?_) (fun z=>absurd rfl z)
   exact⟨_,rfl,_,rfl,nb,_,_,_,rfl,rfl,SqL.of hz,rfl,g,st,X,g',rfl,D⟩
  |apart u v=>
   iterate 8
    refine⟨_,rfl,rfl,_,rfl,?_⟩
    refine aK (fun h=>absurd (V.int.inj (of_decide_eq_true h)) (by decide)) (fun _=>?_)
   refine⟨_,rfl,rfl,_,rfl,?_⟩
   refine aK (fun _=>?_) (fun z=>absurd rfl z)
   exact⟨_,rfl,_,rfl,nb,_,_,_,rfl,rfl,SqL.of hz,rfl,_,rfl,nb,_,_,_,rfl,rfl,SqL.of hz,rfl,g,st,X,u,v,rfl,D⟩
  |refined=>
   iterate 9
    refine⟨_,rfl,rfl,_,rfl,?_⟩
    refine aK (fun h=>absurd (V.int.inj (of_decide_eq_true h)) (by decide)) (fun _=>?_)
   refine⟨_,rfl,rfl,_,rfl,?_⟩
   refine aK (fun _=>?_) (fun z=>absurd rfl z)
   exact⟨_,rfl,g,st,X,rfl,D⟩
  |same m=>
   iterate 10
    refine⟨_,rfl,rfl,_,rfl,?_⟩
    refine aK (fun h=>absurd (V.int.inj (of_decide_eq_true h)) (by decide)) (fun _=>?_)
   refine⟨_,rfl,rfl,_,rfl,?_⟩
   refine aK (fun _=>?_) (fun z=>absurd rfl z)
   exact⟨_,rfl,_,rfl,nb,_,_,_,rfl,rfl,SqL.of hz,rfl,g,st,X,m,rfl,D⟩
  |movings g'=>
   iterate 11
    refine⟨_,rfl,rfl,_,rfl,?_⟩
    refine aK (fun h=>absurd (V.int.inj (of_decide_eq_true h)) (by decide)) (fun _=>?_)
   refine⟨_,rfl,rfl,_,rfl,?_⟩
   refine aK (fun _=>?_) (fun z=>absurd rfl z)
   exact⟨_,rfl,_,rfl,nb,_,_,_,rfl,rfl,SqL.of hz,rfl,g,st,X,g',rfl,D⟩
  |orbits g' m=>
   iterate 12
    refine⟨_,rfl,rfl,_,rfl,?_⟩
    refine aK (fun h=>absurd (V.int.inj (of_decide_eq_true h)) (by decide)) (fun _=>?_)
   refine⟨_,rfl,rfl,_,rfl,?_⟩
   refine aK (fun _=>?_) (fun z=>absurd rfl z)
   exact⟨_,rfl,_,rfl,nb,_,_,_,rfl,rfl,SqL.of hz,rfl,_,rfl,nb,_,_,_,rfl,rfl,SqL.of hz,rfl,g,st,X,g',m,rfl,D⟩
  |walks g' k=>
   iterate 13
    refine⟨_,rfl,rfl,_,rfl,?_⟩
    refine aK (fun h=>absurd (V.int.inj (of_decide_eq_true h)) (by decide)) (fun _=>?_)
   refine⟨_,rfl,rfl,_,rfl,?_⟩
   refine aK (fun _=>?_) (fun z=>absurd rfl z)
   exact⟨_,rfl,_,rfl,nb,_,_,_,rfl,rfl,SqL.of hz,rfl,_,rfl,nb,_,_,_,rfl,rfl,SqL.of hz,rfl,g,st,X,g',k,rfl,D⟩
  |circles g' k=>
   iterate 14
    refine⟨_,rfl,rfl,_,rfl,?_⟩
    refine aK (fun h=>absurd (V.int.inj (of_decide_eq_true h)) (by decide)) (fun _=>?_)
   refine⟨_,rfl,rfl,_,rfl,?_⟩
   refine aK (fun _=>?_) (fun z=>absurd rfl z)
   exact⟨_,rfl,_,rfl,nb,_,_,_,rfl,rfl,SqL.of hz,rfl,_,rfl,nb,_,_,_,rfl,rfl,SqL.of hz,rfl,g,st,X,g',k,rfl,D⟩
  |trees g' l h1' h2'=>
   iterate 15
    refine⟨_,rfl,rfl,_,rfl,?_⟩
    refine aK (fun h=>absurd (V.int.inj (of_decide_eq_true h)) (by decide)) (fun _=>?_)
   refine⟨_,rfl,_,rfl,nb,_,_,_,rfl,rfl,SqL.of hz,cn (j:=0) rfl,_,rfl,2,rfl,nb,_,rfl,SqL.of hz,fun p hp=>?_⟩
   have ec:oX ((g'::(l.length:Int)::l).map V.int) (some 2) none=nums (l.map Int.toNat):=by
    rw[← tT h2']
    unfold oX
    have e2:=HT.sIx_nat ((g'::(l.length:Int)::l).map V.int).length 0 2
    have e3:HT.sIx ((g'::(l.length:Int)::l).map V.int).length 0 (some 2)=2:=by
     refine Eq.trans e2 ?_
     simp
    rw[e3,HT.sIx_none]
    show List.take _ (l.map V.int)=_
    rw[List.take_of_length_le (by simp)]
   rw[ec]
   obtain⟨S,G1,G2,G3⟩:=D
   refine⟨g,p,st,X,g',l.map Int.toNat,rfl,ah,by simpa using h1',S.mono (Same.new hp),G1,G2,fun H' X' q a b c d e=>?_⟩
   have el:(((l.map Int.toNat).length:Nat):Int)=((l.length:Nat):Int):=by rw[length_map]
   rw[el]at a e
   exact G3 H' X' q a ((Kept.of_same (Same.new hp)).trans b) ((Same.new hp).free c) d e
end
theorem vZ{op:Int}{zs:List Int}{q:Call}(h:Ask op zs q):(op≠15∧atI ([0,2,4,2,1,1,2,1,2,0,1,1,2,2,2,2].map V.int) op=some (V.int ((zs.length:Nat):Int)))∨∃ g l,op=15∧zs=g::((l.length:Nat):Int)::l:=by
 cases h with
 |trees g l=>exact .inr ⟨g,l,rfl,rfl⟩
 |_=>exact .inl ⟨by decide,rfl⟩
theorem vb{pre zs t:List Int}{op:Int}:atI ((pre++op::(zs++t)).map V.int) ((pre.length:Nat):Int)=some (V.int op):=by
 refine cn ?_
 rw[List.getElem?_map,List.getElem?_append_right (le_refl _),Nat.sub_self]
 rfl
section
abbrev sEnd:Stmt:=top 103
theorem scEnd:ax ["calls","at","end"] ["calls","at"] (ak sEnd):=fsc
def zL(K:Frag):Sp:=fun vs H Q _=>∃(c:Addr) (pre zs t:List Int) (op:Int) (q:Call),vs=[.ref c,.int (pre.length:Nat)]∧SqL K H c ((pre++op::(zs++t)).map V.int)∧Ask op zs q∧Q (.int ((pre.length+1+zs.length:Nat):Int)) H
theorem Af{f:Addr}{fd:FuncData}(F:Fun K "end_of_call" "end_of_call" sEnd f fd)(T2:di K mg):FnOk P w K mg base CX0 1 f fd ["calls","at"] (zL K):=by
 refine F.ok scEnd (fun vs H Q E h=>?_) (fun cdv Ar outer s H vs Q E hr h=>?_)
 ·obtain⟨c,pre,zs,t,op,q,rfl,_⟩:=h
  rfl
 ·obtain⟨c,pre,zs,t,op,q,rfl,hc,A,k⟩:=h
  have nd:=scEnd.nd
  obtain⟨aw,hw,sw⟩:=T2.widths
  obtain⟨t15,h15⟩:=T2.c15
  refine⟨_,af (ay (i:=2) nd rfl (Or.inl rfl) (a0 cJ (a0 cJ (pv 1) az) (kr (K:=K) rfl (aD (v:= .ref aw) rfl hw rfl) (aF (K:=K) rfl (pv 0) (pv 1)))))
   (af (aQ (aH bE (aF (K:=K) rfl (pv 0) (pv 1)) (aD (v:= .int 15) rfl h15 ⟨t15,rfl⟩) (nomark _)) (aj (au (a0 cJ (pv 2) (aF (K:=K) rfl (pv 0) (a0 i9 (pv 2) az))))) aG)
   (aj (au (pv 2)))),?_⟩
  have hat:=vb (pre:=pre) (zs:=zs) (t:=t) (op:=op)
  rcases vZ A with⟨ne,hwd⟩|⟨g,l,rfl,rfl⟩
  ·refine⟨_,rfl,_,_,rfl,rfl,_,rfl,_,rfl,c,_,_,_,rfl,rfl,hc,hat,aw,_,_,_,rfl,rfl,sw H,hwd,_,_,rfl,rfl,?_⟩
   refine⟨_,rfl,_,rfl,c,_,_,_,rfl,rfl,hc,hat,rfl,_,rfl,?_⟩
   refine aK (fun h=>absurd (V.int.inj (of_decide_eq_true h)) ne) (fun _=>?_)
   exact⟨_,rfl,k⟩
  ·refine⟨_,rfl,_,_,rfl,rfl,_,rfl,_,rfl,c,_,_,_,rfl,rfl,hc,hat,aw,_,_,_,rfl,rfl,sw H,rfl,_,_,rfl,rfl,?_⟩
   refine⟨_,rfl,_,rfl,c,_,_,_,rfl,rfl,hc,hat,rfl,_,rfl,?_⟩
   refine aK (fun _=>?_) (fun z=>absurd rfl z)
   have e1:((pre.length:Nat):Int)+1+2 - 1=((pre.length+2:Nat):Int):=by omega
   have hl:((pre++15::(g::((l.length:Nat):Int)::l++t)).map V.int)[pre.length+2]?=some (V.int ((l.length:Nat):Int)):=by
    rw[List.getElem?_map,List.getElem?_append_right (by omega),Nat.add_sub_cancel_left]
    rfl
   refine⟨_,rfl,_,rfl,_,rfl,_,_,rfl,rfl,c,_,_,_,rfl,rfl,hc,cQ (j:=pre.length+2) e1 hl,_,_,rfl,rfl,?_⟩
   have e2:((pre.length+1+(g::((l.length:Nat):Int)::l).length:Nat):Int)=((pre.length:Nat):Int)+1+2+((l.length:Nat):Int):=by
    simp only[length_cons]
    omega
   rw[e2]at k
   exact k
end
theorem StAt.aside{H:Hp}{g:Addr}{s:Abs}{X:List Addr}(S:StAt H g s X){t:Addr}(ht:t∉X)(o:HO):StAt (upd H t o) g s X:=by
 obtain⟨a,b,as,bs,h1,h2,h3,h4,h5,rfl⟩:=S
 have ne:∀ x,x∈g::a::b::(as++bs)→x≠t:=fun x hx z=>ht (z▸hx)
 have ok:∀{x:Addr} {G:Graph} {xs:List Addr},GrAt H x G xs→x≠t→(∀ y∈xs,y≠t)→GrAt (upd H t o) x G xs:=fun M hx hxs=>⟨by rw[ao hx];exact M.lst,M.len,fun i y r hi hr=>by
  show upd H t o y=_
  rw[ao (hxs y (mem_of_getElem? hi))]
  exact M.row i y r hi hr⟩
 refine⟨a,b,as,bs,by rw[ao (ne g mem_cons_self)];exact h1,ok h2 (ne a (by simp)) (fun y hy=>ne y (by simp[hy])),ok h3 (ne b (by simp)) (fun y hy=>ne y (by simp[hy])),h4,h5,rfl⟩
theorem yJ{pre zs t:List Int}{op:Int}:oX ((pre++op::(zs++t)).map V.int) (some ((pre.length+1:Nat):Int)) (some ((pre.length+1+zs.length:Nat):Int))=zs.map V.int:=by
 unfold oX
 rw[HT.sIx_nat,HT.sIx_nat]
 have l1:((pre++op::(zs++t)).map V.int).length=pre.length+1+zs.length+t.length:=by
  simp only[length_map,length_append,length_cons]
  omega
 rw[l1,Nat.min_eq_left (by omega),Nat.min_eq_left (by omega),Nat.add_sub_cancel_left,← List.map_drop,← List.map_take]
 congr 1
 have e:(pre++op::(zs++t)).drop (pre.length+1)=zs++t:=by
  rw[List.drop_append]
  simp
 rw[e,List.take_left]
section
abbrev qw:Stmt:=top 104
theorem scAnswers:ax ["calls","graphs","told","at","end","numbers"] ["calls"] (ak qw):=fsc
def gG(K:Frag):Sp:=fun vs H Q _=>∃(c:Addr) (L out:List Int),vs=[.ref c]∧SqL K H c (L.map V.int)∧L.length≤30000∧GS.Line 400 L {} out∧∀ H' q,H' q=some (.lst (out.map V.int))→Q (.ref q) H'
theorem uz{f:Addr}{fd:FuncData}(F:Fun K "answers" "answers" qw f fd)(T:Txt K mg){f1:Addr}{fd1:FuncData}(C1:Cal P w K mg base 1 "end_of_call" ["calls","at"] (zL K) f1 fd1){f2:Addr}{fd2:FuncData}(C2:Cal P w K mg base 91 "answer" ["graphs","call","numbers"] sR f2 fd2):
  FnOk P w K mg base CX0 92 f fd ["calls"] (gG K):=by
 refine F.ok scAnswers (fun vs H Q E h=>?_) (fun cdv Ar outer s H vs Q E hr h=>?_)
 ·obtain⟨c,L,out,rfl,_⟩:=h
  rfl
 ·obtain⟨c,L,out,rfl,hc,hL,ln,k⟩:=h
  have nd:=scAnswers.nd
  have hr1:Room 1 _:=hr.mono (by decide)
  refine⟨_,af (ay (i:=1) nd rfl (Or.inl rfl) (aP (ae (aP ai) (ae (aP ai) ai))))
   (af (ay (i:=2) nd rfl (Or.inl rfl) (aP ai))
   (af (ay (i:=3) nd rfl (Or.inl rfl) az)
   (af (dR PassesOwn.never (aH vE (pv 3) (aS (K:=K) rfl T.len (pv 0)) (nomark _))
    (af (ay (i:=4) nd rfl (Or.inl rfl) (aq C1 hr1 (ae (pv 0) (ae (pv 3) ai))))
    (af (ay (i:=5) nd rfl (Or.inl rfl) (aq C2 hr (ae (pv 1) (ae (aF (K:=K) rfl (pv 0) (pv 3)) (ae (kY oY (pv 0) (kD (a0 cJ (pv 3) az)) (kD (pv 4))) ai)))))
    (af (cj (i0 PySem.F.plainAttrs_list PySem.F.slot_list_append PySem.F.type_list_append cw (pv 2) (ae (aS (K:=K) rfl T.len (pv 5)) ai)))
    (af (cj (i0 PySem.F.plainAttrs_list PySem.F.slot_list_extend PySem.F.type_list_extend wd (pv 2) (ae (pv 5) ai)))
    (aj (ay (i:=3) nd rfl (Or.inl rfl) (pv 4))))))))
   (aj (au (pv 2)))))),?_⟩
  refine⟨zero_le _,fun a ha=>⟨zero_le _,fun b hb=>⟨le_of_lt (aC (show 2≤1000 by decide)),fun g hg=>⟨zero_le _,fun t ht=>?_⟩⟩⟩⟩
  have ab:a≠b:=fun z=>by rw[← z,ah]at hb;cases hb
  have ga:a≠g:=fun z=>by rw[← z,ao ab,ah]at hg;cases hg
  have gb:b≠g:=fun z=>by rw[← z,ah]at hg;cases hg
  have ta:a≠t:=fun z=>by rw[← z,ao ga,ao ab,ah]at ht;cases ht
  have tb:b≠t:=fun z=>by rw[← z,ao gb,ah]at ht;cases ht
  have tg:g≠t:=fun z=>by rw[← z,ah]at ht;cases ht
  have sa:=Same.new (o:= .lst []) ha
  have sb:=sa.trans (Same.new (o:= .lst []) hb)
  have sg:=sb.trans (Same.new (o:= .lst [V.ref a,V.ref b]) hg)
  have stt:=sg.trans (Same.new (o:= .lst []) ht)
  let Inv:Nat→L2.St→Hp→Prop:=fun m σ H'=>∃(pre rest o1 o2:List Int) (x4 x5:Option V) (s:Abs) (X:List Addr),σ=[some (.ref c),some (.ref g),some (.ref t),some (.int (pre.length:Nat)),x4,x5]∧L=pre++rest∧out=o1++o2∧GS.Line m rest s o2∧m≤400∧o1.length≤(400 - m)*18∧GS.Good s∧StAt H' g s X∧H' t=some (.lst (o1.map V.int))∧t∉X∧Same H H'∧(∀ x∈t::X,H x=none)
  refine⟨fun m σ H'=>Inv m σ H',⟨400,[],L,[],out,none,none,{},[g,a,b],rfl,rfl,rfl,ln,le_refl _,by simp,GS.k9,⟨a,b,[],[],?_,⟨?_,rfl,fun i b r h=>by simp at h⟩,⟨?_,rfl,fun i b r h=>by simp at h⟩,nodup_nil,?_,rfl⟩,ah,?_,stt,?_⟩,?_⟩
  ·rw[ao tg,ah]
  ·show upd _ t _ a=_
   rw[ao ta,ao ga,ao ab,ah]
   rfl
  ·show upd _ t _ b=_
   rw[ao tb,ao gb,ah]
   rfl
  ·simp[Ne.symm ga,Ne.symm gb]
  ·simp[Ne.symm ta,Ne.symm tb,Ne.symm tg]
  ·intro x hx
   simp at hx
   rcases hx with rfl|rfl|rfl|rfl
   ·exact sg.free ht
   ·exact sb.free hg
   ·exact ha
   ·exact sa.free hb
  ·rintro m σ H1 ⟨pre,rest,o1,o2,x4,x5,st,X,rfl,eL,eo,li,m400,lo,gd,S,hT,tX,sH,fr⟩
   have hc1:=sH.seq hc
   refine⟨_,rfl,_,rfl,c,_,rfl,.inl hc1,_,_,rfl,rfl,_,rfl,?_⟩
   refine aK (fun hlt=>?_) (fun hge=>?_)
   ·have hlt:pre.length<L.length:=by
     have:=of_decide_eq_true hlt
     rw[length_map]at this
     omega
    cases li with
    |nil=>rw[eL,append_nil]at hlt;omega
    | @cons m' _ _ q t' o2' fo sm li'=>
     obtain⟨op,zs,rfl,A⟩:=xx fo
     refine⟨Inv m',fun σ' H' I=>⟨m',by omega,I⟩,?_⟩
     have hc2:SqL K H1 c ((pre++op::(zs++t')).map V.int):=by rw[← eL];exact hc1
     refine⟨_,rfl,_,rfl,c,pre,zs,t',op,q,rfl,hc2,A,?_⟩
     have e1:((pre.length:Nat):Int)+1=((pre.length+1:Nat):Int):=by omega
     refine⟨_,rfl,_,rfl,_,rfl,c,_,_,_,rfl,rfl,hc2,vb,_,rfl,_,rfl,_,_,rfl,rfl,((pre.length+1:Nat):Int),congrArg V.int e1,_,rfl,_,rfl,c,_,rfl,hc2,fun nb hnb=>?_⟩
     rw[yJ]
     have s2:=Same.new (o:= .lst (zs.map V.int)) hnb
     refine⟨g,nb,st,X,op,zs,q,rfl,ah,A,S.mono s2,gd,sm,fun H3 X3 r S3 K3 hr3 hrX hR=>?_⟩
     have hT2:=s2 _ _ hT
     obtain⟨tX3,hT3⟩:=K3.out tX hT2
     have rt:r≠t:=fun z=>by rw[z,hT2]at hr3;cases hr3
     have sH3:Same H H3:=fun x o e=>K3.1 x o (fun z=>by
      have:=fr x (mem_cons_of_mem _ z)
      rw[e]at this
      cases this) (s2 _ _ (sH _ _ e))
     have fr3:∀ x∈t::X3,H x=none:=fun x hx=>by
      rcases mem_cons.mp hx with rfl|hx
      ·exact fr x mem_cons_self
      ·rcases K3.2.1 x hx with h|h
       ·exact fr x (mem_cons_of_mem _ h)
       ·exact sH.free (s2.free h)
     have sl:=GS.xU st q
     have lo2:o1.length+18≤7200:=by
      have:(400 - (m'+1))*18≤399*18:=Nat.mul_le_mul_right _ (by omega)
      omega
     refine⟨_,rfl,.inl ⟨rfl,_,SqL.of hT3⟩,_,rfl,r,_,rfl,.inl (SqL.of hR),t,_,_,rfl,rfl,hT3,?_,?_⟩
     ·rw[length_map]
      exact lt_of_le_of_lt (show o1.length≤7200 by omega) (by decide)
     refine⟨_,rfl,.inl ⟨rfl,_,SqL.of ah⟩,_,rfl,t,r,_,_,rfl,rfl,ah,by rw[ao rt];exact hR,?_,?_⟩
     ·rw[length_append,length_map,length_map,length_singleton]
      exact le_of_lt (lt_of_le_of_lt (show _≤7200 by omega) (by decide))
     refine⟨_,rfl,pre++op::zs,t',o1++((((GS.said (Rc81.does st q).2).length:Nat):Int)::GS.said (Rc81.does st q).2),o2',some (.int ((pre.length+1+zs.length:Nat):Int)),some (.ref r),(Rc81.does st q).1,X3,?_,by rw[eL];simp,by rw[eo];simp,li',by omega,?_,GS.wc gd q,(S3.aside tX3 _).aside tX3 _,?_,tX3,?_,fr3⟩
     ·have:(pre++op::zs).length=pre.length+1+zs.length:=by simp only[length_append,length_cons];omega
      rw[this]
      rfl
     ·rw[length_append,length_cons]
      have:(400 - m')*18=(400 - (m'+1))*18+18:=by
       have:400 - m'=(400 - (m'+1))+1:=by omega
       rw[this,add_mul]
      omega
     ·rw[ah,map_append,map_cons,append_assoc]
      rw[show((GS.said (Rc81.does st q).2).map V.int).length=(GS.said (Rc81.does st q).2).length from length_map ..]
      rfl
     ·have ht0:=fr t mem_cons_self
      exact(sH3.put ht0).put ht0
   ·have hge:¬ pre.length<L.length:=fun z=>hge (by
     refine decide_eq_true ?_
     rw[length_map]
     omega)
    have er:rest=[]:=by
     cases rest with
     |nil=>rfl
     |cons y ys=>rw[eL]at hge;simp at hge
    subst er
    cases li with
    |nil=>
     rw[append_nil]at eo
     subst eo
     exact⟨_,rfl,k H1 t hT⟩
    |cons fo _ _=>cases fo
end
abbrev BN(x:Str)(ps:List Str)(i:Nat):Prop:=∀(kV doc pm:Value) (an:Option Addr) (cdv ct:Value) (us:List Value),us.length=ps.length→bindArgs (fnOf x x (gA (top i)) (ff (top i)) (ak (top i)) .none kV doc pm an cdv ct) ⟨us,[]⟩=pure (ps.zip us)
def Def(K:Frag)(mg:Str→Option Value)(x:Str)(ps:List Str)(i:Nat):Prop:=∃(f:Addr) (fd:FuncData),Fun K x x (top i) f fd∧Nm K mg x f fd ps
theorem aB{K:Frag}{h:Heap}{mg:Str→Option Value}(X:K.In h)(G:h.Ns mainGlobals mg){x:Str}{ps:List Str}{i:Nat}(b:BN x ps i){f:Addr}{oc:Value}{od an:Option Addr}{osl:Array (Option Value)}{kV doc pm cdv ct:Value}
  (a:nsIn K mainGlobals x=some (some (.ref f))) (l:K.lookup f=some ⟨oc,od,.func (fnOf x x (gA (top i)) (ff (top i)) (ak (top i)) .none kV doc pm an cdv ct),osl⟩)
  (c:codeIn K cdv x=true) (k:keepIn K (.ref f)=true):Def K mg x ps i:=
 have F:=zY (st:=top i) l c k
 ⟨f,_,F,PySem.W.mg_of X G a,k,F.binds b⟩
structure Defs(K:Frag)(mg:Str→Option Value):Prop where
 d0:Def K mg "neighbours" ["row","before"] 1
 d1:Def K mg "alone" ["joined"] 2
 d2:Def K mg "side_by_side" ["first","second"] 3
 d3:Def K mg "whole_parting" ["near"] 4
 d4:Def K mg "deeper_parting" ["near","parting"] 5
 d5:Def K mg "partings" ["near"] 6
 d6:Def K mg "least_alike" ["joined"] 7
 d7:Def K mg "rounds_needed" ["joined"] 8
 d8:Def K mg "depth_apart" ["first","second","u","v"] 9
 d9:Def K mg "is_even" ["parting","points","images"] 10
 d10:Def K mg "count_parts" ["parting"] 11
 d11:Def K mg "even_parting" ["near","parting","points","images"] 12
 d12:Def K mg "even_graphs" ["first","second"] 13
 d13:Def K mg "surpluses" ["near","parting","points"] 23
 d14:Def K mg "linked_with" ["near","parting","surplus","points","point"] 24
 d15:Def K mg "piece_of" ["near","parting","surplus","points","start"] 25
 d16:Def K mg "pieces_of" ["near","parting","points"] 26
 d17:Def K mg "both_pieces" ["near","parting","points","images"] 29
 d18:Def K mg "parting_around" ["near","parting","points","images","point","image"] 30
 d19:Def K mg "put" ["near","parting","pieces","point","image"] 31
 d20:Def K mg "first_put" ["near","parting","pieces","point","images"] 32
 d21:Def K mg "first_map" ["near","parting","points","images"] 33
 d22:Def K mg "first_images" ["first","second"] 34
 d23:Def K mg "images_of" ["near","points"] 36
 d24:Def K mg "reached_from" ["near","point","placings"] 37
 d25:Def K mg "orbit_of" ["near","parting","pieces","point","points"] 38
 d26:Def K mg "movings_fixing" ["near","parting","points","point"] 39
 d27:Def K mg "movings_keeping" ["near","parting","points"] 40
 d28:Def K mg "count_movings" ["joined"] 41
 d29:Def K mg "least_moved_on" ["joined"] 42
 d30:Def K mg "sum_of_products" ["row","other"] 45
 d31:Def K mg "rows_times" ["rows","row"] 46
 d32:Def K mg "ways_joined" ["first","second"] 47
 d33:Def K mg "ways_of_none" ["n","point"] 48
 d34:Def K mg "ways_over" ["joined","k"] 49
 d35:Def K mg "count_walks" ["joined","k"] 50
 d36:Def K mg "count_circles" ["joined","k"] 51
 d37:Def K mg "products" ["row","other"] 52
 d38:Def K mg "one_each" ["joined"] 53
 d39:Def K mg "count_trees" ["joined","hung"] 54
 d40:Def K mg "state_after" ["joined","state","point"] 16
 d41:Def K mg "least_unplaced" ["state"] 17
 d42:Def K mg "orders_after" ["joined","orders"] 18
 d43:Def K mg "least_order" ["joined"] 19
 d44:Def K mg "reordered_row" ["row","order"] 20
 d45:Def K mg "form_of" ["joined"] 21
 d46:Def K mg "is_graph" ["g"] 79
 d47:Def K mg "has_point" ["graphs","g","u"] 80
 d48:Def K mg "first_numbers" ["numbers","most"] 81
 d49:Def K mg "begin" ["graphs"] 82
 d50:Def K mg "lone_row" ["n"] 83
 d51:Def K mg "graph" ["graphs","g","n"] 84
 d52:Def K mg "edge" ["graphs","g","u","v","on"] 85
 d53:Def K mg "degree" ["graphs","g","u"] 86
 d54:Def K mg "turned_row" ["row","point"] 87
 d55:Def K mg "turn" ["graphs","g"] 88
 d56:Def K mg "settle" ["graphs","g"] 89
 d57:Def K mg "classes" ["graphs","g","most"] 90
 d58:Def K mg "rounds" ["graphs","g"] 91
 d59:Def K mg "apart" ["graphs","u","v"] 92
 d60:Def K mg "refined" ["graphs"] 93
 d61:Def K mg "same" ["graphs","most"] 94
 d62:Def K mg "movings" ["graphs","g"] 95
 d63:Def K mg "orbits" ["graphs","g","most"] 96
 d64:Def K mg "has_steps" ["k"] 97
 d65:Def K mg "walks" ["graphs","g","k"] 98
 d66:Def K mg "circles" ["graphs","g","k"] 99
 d67:Def K mg "is_tree" ["hung"] 100
 d68:Def K mg "trees" ["graphs","g","hung"] 101
 d69:Def K mg "answer" ["graphs","call","numbers"] 102
 d70:Def K mg "end_of_call" ["calls","at"] 103
 d71:Def K mg "answers" ["calls"] 104
theorem b0:BN "neighbours" ["row","before"] 1:=fun _ _ _ _ _ _ us h=>match us,h with|[_,_],_=>rfl
theorem b1:BN "alone" ["joined"] 2:=fun _ _ _ _ _ _ us h=>match us,h with|[_],_=>rfl
theorem b2:BN "side_by_side" ["first","second"] 3:=fun _ _ _ _ _ _ us h=>match us,h with|[_,_],_=>rfl
theorem b3:BN "whole_parting" ["near"] 4:=fun _ _ _ _ _ _ us h=>match us,h with|[_],_=>rfl
theorem b4:BN "deeper_parting" ["near","parting"] 5:=fun _ _ _ _ _ _ us h=>match us,h with|[_,_],_=>rfl
theorem b5:BN "partings" ["near"] 6:=fun _ _ _ _ _ _ us h=>match us,h with|[_],_=>rfl
theorem b6:BN "least_alike" ["joined"] 7:=fun _ _ _ _ _ _ us h=>match us,h with|[_],_=>rfl
theorem b7:BN "rounds_needed" ["joined"] 8:=fun _ _ _ _ _ _ us h=>match us,h with|[_],_=>rfl
theorem b8:BN "depth_apart" ["first","second","u","v"] 9:=fun _ _ _ _ _ _ us h=>match us,h with|[_,_,_,_],_=>rfl
theorem b9:BN "is_even" ["parting","points","images"] 10:=fun _ _ _ _ _ _ us h=>match us,h with|[_,_,_],_=>rfl
theorem b10:BN "count_parts" ["parting"] 11:=fun _ _ _ _ _ _ us h=>match us,h with|[_],_=>rfl
theorem b11:BN "even_parting" ["near","parting","points","images"] 12:=fun _ _ _ _ _ _ us h=>match us,h with|[_,_,_,_],_=>rfl
theorem b12:BN "even_graphs" ["first","second"] 13:=fun _ _ _ _ _ _ us h=>match us,h with|[_,_],_=>rfl
theorem b13:BN "surpluses" ["near","parting","points"] 23:=fun _ _ _ _ _ _ us h=>match us,h with|[_,_,_],_=>rfl
theorem b14:BN "linked_with" ["near","parting","surplus","points","point"] 24:=fun _ _ _ _ _ _ us h=>match us,h with|[_,_,_,_,_],_=>rfl
theorem b15:BN "piece_of" ["near","parting","surplus","points","start"] 25:=fun _ _ _ _ _ _ us h=>match us,h with|[_,_,_,_,_],_=>rfl
theorem b16:BN "pieces_of" ["near","parting","points"] 26:=fun _ _ _ _ _ _ us h=>match us,h with|[_,_,_],_=>rfl
theorem b17:BN "both_pieces" ["near","parting","points","images"] 29:=fun _ _ _ _ _ _ us h=>match us,h with|[_,_,_,_],_=>rfl
theorem b18:BN "parting_around" ["near","parting","points","images","point","image"] 30:=fun _ _ _ _ _ _ us h=>match us,h with|[_,_,_,_,_,_],_=>rfl
theorem b19:BN "put" ["near","parting","pieces","point","image"] 31:=fun _ _ _ _ _ _ us h=>match us,h with|[_,_,_,_,_],_=>rfl
theorem b20:BN "first_put" ["near","parting","pieces","point","images"] 32:=fun _ _ _ _ _ _ us h=>match us,h with|[_,_,_,_,_],_=>rfl
theorem b21:BN "first_map" ["near","parting","points","images"] 33:=fun _ _ _ _ _ _ us h=>match us,h with|[_,_,_,_],_=>rfl
theorem b22:BN "first_images" ["first","second"] 34:=fun _ _ _ _ _ _ us h=>match us,h with|[_,_],_=>rfl
theorem b23:BN "images_of" ["near","points"] 36:=fun _ _ _ _ _ _ us h=>match us,h with|[_,_],_=>rfl
theorem b24:BN "reached_from" ["near","point","placings"] 37:=fun _ _ _ _ _ _ us h=>match us,h with|[_,_,_],_=>rfl
theorem b25:BN "orbit_of" ["near","parting","pieces","point","points"] 38:=fun _ _ _ _ _ _ us h=>match us,h with|[_,_,_,_,_],_=>rfl
theorem b26:BN "movings_fixing" ["near","parting","points","point"] 39:=fun _ _ _ _ _ _ us h=>match us,h with|[_,_,_,_],_=>rfl
theorem b27:BN "movings_keeping" ["near","parting","points"] 40:=fun _ _ _ _ _ _ us h=>match us,h with|[_,_,_],_=>rfl
theorem b28:BN "count_movings" ["joined"] 41:=fun _ _ _ _ _ _ us h=>match us,h with|[_],_=>rfl
theorem b29:BN "least_moved_on" ["joined"] 42:=fun _ _ _ _ _ _ us h=>match us,h with|[_],_=>rfl
theorem b30:BN "sum_of_products" ["row","other"] 45:=fun _ _ _ _ _ _ us h=>match us,h with|[_,_],_=>rfl
theorem b31:BN "rows_times" ["rows","row"] 46:=fun _ _ _ _ _ _ us h=>match us,h with|[_,_],_=>rfl
theorem b32:BN "ways_joined" ["first","second"] 47:=fun _ _ _ _ _ _ us h=>match us,h with|[_,_],_=>rfl
theorem b33:BN "ways_of_none" ["n","point"] 48:=fun _ _ _ _ _ _ us h=>match us,h with|[_,_],_=>rfl
theorem b34:BN "ways_over" ["joined","k"] 49:=fun _ _ _ _ _ _ us h=>match us,h with|[_,_],_=>rfl
theorem b35:BN "count_walks" ["joined","k"] 50:=fun _ _ _ _ _ _ us h=>match us,h with|[_,_],_=>rfl
theorem b36:BN "count_circles" ["joined","k"] 51:=fun _ _ _ _ _ _ us h=>match us,h with|[_,_],_=>rfl
theorem b37:BN "products" ["row","other"] 52:=fun _ _ _ _ _ _ us h=>match us,h with|[_,_],_=>rfl
theorem b38:BN "one_each" ["joined"] 53:=fun _ _ _ _ _ _ us h=>match us,h with|[_],_=>rfl
theorem b39:BN "count_trees" ["joined","hung"] 54:=fun _ _ _ _ _ _ us h=>match us,h with|[_,_],_=>rfl
theorem b40:BN "state_after" ["joined","state","point"] 16:=fun _ _ _ _ _ _ us h=>match us,h with|[_,_,_],_=>rfl
theorem b41:BN "least_unplaced" ["state"] 17:=fun _ _ _ _ _ _ us h=>match us,h with|[_],_=>rfl
theorem b42:BN "orders_after" ["joined","orders"] 18:=fun _ _ _ _ _ _ us h=>match us,h with|[_,_],_=>rfl
theorem b43:BN "least_order" ["joined"] 19:=fun _ _ _ _ _ _ us h=>match us,h with|[_],_=>rfl
theorem b44:BN "reordered_row" ["row","order"] 20:=fun _ _ _ _ _ _ us h=>match us,h with|[_,_],_=>rfl
theorem b45:BN "form_of" ["joined"] 21:=fun _ _ _ _ _ _ us h=>match us,h with|[_],_=>rfl
theorem b46:BN "is_graph" ["g"] 79:=fun _ _ _ _ _ _ us h=>match us,h with|[_],_=>rfl
theorem b47:BN "has_point" ["graphs","g","u"] 80:=fun _ _ _ _ _ _ us h=>match us,h with|[_,_,_],_=>rfl
theorem b48:BN "first_numbers" ["numbers","most"] 81:=fun _ _ _ _ _ _ us h=>match us,h with|[_,_],_=>rfl
theorem b49:BN "begin" ["graphs"] 82:=fun _ _ _ _ _ _ us h=>match us,h with|[_],_=>rfl
theorem b50:BN "lone_row" ["n"] 83:=fun _ _ _ _ _ _ us h=>match us,h with|[_],_=>rfl
theorem b51:BN "graph" ["graphs","g","n"] 84:=fun _ _ _ _ _ _ us h=>match us,h with|[_,_,_],_=>rfl
theorem b52:BN "edge" ["graphs","g","u","v","on"] 85:=fun _ _ _ _ _ _ us h=>match us,h with|[_,_,_,_,_],_=>rfl
theorem b53:BN "degree" ["graphs","g","u"] 86:=fun _ _ _ _ _ _ us h=>match us,h with|[_,_,_],_=>rfl
theorem b54:BN "turned_row" ["row","point"] 87:=fun _ _ _ _ _ _ us h=>match us,h with|[_,_],_=>rfl
theorem b55:BN "turn" ["graphs","g"] 88:=fun _ _ _ _ _ _ us h=>match us,h with|[_,_],_=>rfl
theorem b56:BN "settle" ["graphs","g"] 89:=fun _ _ _ _ _ _ us h=>match us,h with|[_,_],_=>rfl
theorem b57:BN "classes" ["graphs","g","most"] 90:=fun _ _ _ _ _ _ us h=>match us,h with|[_,_,_],_=>rfl
theorem b58:BN "rounds" ["graphs","g"] 91:=fun _ _ _ _ _ _ us h=>match us,h with|[_,_],_=>rfl
theorem b59:BN "apart" ["graphs","u","v"] 92:=fun _ _ _ _ _ _ us h=>match us,h with|[_,_,_],_=>rfl
theorem b60:BN "refined" ["graphs"] 93:=fun _ _ _ _ _ _ us h=>match us,h with|[_],_=>rfl
theorem b61:BN "same" ["graphs","most"] 94:=fun _ _ _ _ _ _ us h=>match us,h with|[_,_],_=>rfl
theorem b62:BN "movings" ["graphs","g"] 95:=fun _ _ _ _ _ _ us h=>match us,h with|[_,_],_=>rfl
theorem b63:BN "orbits" ["graphs","g","most"] 96:=fun _ _ _ _ _ _ us h=>match us,h with|[_,_,_],_=>rfl
theorem b64:BN "has_steps" ["k"] 97:=fun _ _ _ _ _ _ us h=>match us,h with|[_],_=>rfl
theorem b65:BN "walks" ["graphs","g","k"] 98:=fun _ _ _ _ _ _ us h=>match us,h with|[_,_,_],_=>rfl
theorem b66:BN "circles" ["graphs","g","k"] 99:=fun _ _ _ _ _ _ us h=>match us,h with|[_,_,_],_=>rfl
theorem b67:BN "is_tree" ["hung"] 100:=fun _ _ _ _ _ _ us h=>match us,h with|[_],_=>rfl
theorem b68:BN "trees" ["graphs","g","hung"] 101:=fun _ _ _ _ _ _ us h=>match us,h with|[_,_,_],_=>rfl
theorem b69:BN "answer" ["graphs","call","numbers"] 102:=fun _ _ _ _ _ _ us h=>match us,h with|[_,_,_],_=>rfl
theorem b70:BN "end_of_call" ["calls","at"] 103:=fun _ _ _ _ _ _ us h=>match us,h with|[_,_],_=>rfl
theorem b71:BN "answers" ["calls"] 104:=fun _ _ _ _ _ _ us h=>match us,h with|[_],_=>rfl
theorem zU{P:Program}{w:World}{K:Frag}{mg:Str→Option Value}(T:Txt K mg)(T2:di K mg)(D:Defs K mg):∃(fa:Addr) (fd:FuncData),mg "answers"=some (.ref fa)∧(∀(s:Shared) (us:List Value),us.length=(["calls"]:List Str).length→BindsTo s fd ⟨us,[]⟩ ((["calls"]:List Str).zip us))∧∀ base:Heap,FnOk P w K mg base CX0 92 fa fd ["calls"] (gG K):=by
 obtain⟨f0,e0,F0,N0⟩:=D.d0
 obtain⟨f1,e1,F1,N1⟩:=D.d1
 obtain⟨f2,e2,F2,N2⟩:=D.d2
 obtain⟨f3,e3,F3,N3⟩:=D.d3
 obtain⟨f4,e4,F4,N4⟩:=D.d4
 obtain⟨f5,e5,F5,N5⟩:=D.d5
 obtain⟨f6,e6,F6,N6⟩:=D.d6
 obtain⟨f7,e7,F7,N7⟩:=D.d7
 obtain⟨f8,e8,F8,N8⟩:=D.d8
 obtain⟨f9,e9,F9,N9⟩:=D.d9
 obtain⟨f10,e10,F10,N10⟩:=D.d10
 obtain⟨f11,e11,F11,N11⟩:=D.d11
 obtain⟨f12,e12,F12,N12⟩:=D.d12
 obtain⟨f13,e13,F13,N13⟩:=D.d13
 obtain⟨f14,e14,F14,N14⟩:=D.d14
 obtain⟨f15,e15,F15,N15⟩:=D.d15
 obtain⟨f16,e16,F16,N16⟩:=D.d16
 obtain⟨f17,e17,F17,N17⟩:=D.d17
 obtain⟨f18,e18,F18,N18⟩:=D.d18
 obtain⟨f19,e19,F19,N19⟩:=D.d19
 obtain⟨f20,e20,F20,N20⟩:=D.d20
 obtain⟨f21,e21,F21,N21⟩:=D.d21
 obtain⟨f22,e22,F22,N22⟩:=D.d22
 obtain⟨f23,e23,F23,N23⟩:=D.d23
 obtain⟨f24,e24,F24,N24⟩:=D.d24
 obtain⟨f25,e25,F25,N25⟩:=D.d25
 obtain⟨f26,e26,F26,N26⟩:=D.d26
 obtain⟨f27,e27,F27,N27⟩:=D.d27
 obtain⟨f28,e28,F28,N28⟩:=D.d28
 obtain⟨f29,e29,F29,N29⟩:=D.d29
 obtain⟨f30,e30,F30,N30⟩:=D.d30
 obtain⟨f31,e31,F31,N31⟩:=D.d31
 obtain⟨f32,e32,F32,N32⟩:=D.d32
 obtain⟨f33,e33,F33,N33⟩:=D.d33
 obtain⟨f34,e34,F34,N34⟩:=D.d34
 obtain⟨f35,e35,F35,N35⟩:=D.d35
 obtain⟨f36,e36,F36,N36⟩:=D.d36
 obtain⟨f37,e37,F37,N37⟩:=D.d37
 obtain⟨f38,e38,F38,N38⟩:=D.d38
 obtain⟨f39,e39,F39,N39⟩:=D.d39
 obtain⟨f40,e40,F40,N40⟩:=D.d40
 obtain⟨f41,e41,F41,N41⟩:=D.d41
 obtain⟨f42,e42,F42,N42⟩:=D.d42
 obtain⟨f43,e43,F43,N43⟩:=D.d43
 obtain⟨f44,e44,F44,N44⟩:=D.d44
 obtain⟨f45,e45,F45,N45⟩:=D.d45
 obtain⟨f46,e46,F46,N46⟩:=D.d46
 obtain⟨f47,e47,F47,N47⟩:=D.d47
 obtain⟨f48,e48,F48,N48⟩:=D.d48
 obtain⟨f49,e49,F49,N49⟩:=D.d49
 obtain⟨f50,e50,F50,N50⟩:=D.d50
 obtain⟨f51,e51,F51,N51⟩:=D.d51
 obtain⟨f52,e52,F52,N52⟩:=D.d52
 obtain⟨f53,e53,F53,N53⟩:=D.d53
 obtain⟨f54,e54,F54,N54⟩:=D.d54
 obtain⟨f55,e55,F55,N55⟩:=D.d55
 obtain⟨f56,e56,F56,N56⟩:=D.d56
 obtain⟨f57,e57,F57,N57⟩:=D.d57
 obtain⟨f58,e58,F58,N58⟩:=D.d58
 obtain⟨f59,e59,F59,N59⟩:=D.d59
 obtain⟨f60,e60,F60,N60⟩:=D.d60
 obtain⟨f61,e61,F61,N61⟩:=D.d61
 obtain⟨f62,e62,F62,N62⟩:=D.d62
 obtain⟨f63,e63,F63,N63⟩:=D.d63
 obtain⟨f64,e64,F64,N64⟩:=D.d64
 obtain⟨f65,e65,F65,N65⟩:=D.d65
 obtain⟨f66,e66,F66,N66⟩:=D.d66
 obtain⟨f67,e67,F67,N67⟩:=D.d67
 obtain⟨f68,e68,F68,N68⟩:=D.d68
 obtain⟨f69,e69,F69,N69⟩:=D.d69
 obtain⟨f70,e70,F70,N70⟩:=D.d70
 obtain⟨f71,e71,F71,N71⟩:=D.d71
 refine⟨f71,e71,N71.mg,fun s us hl=>?_,fun base=>?_⟩
 ·obtain⟨oc,od,kV,doc,pm,an,cdv,ct,osl,e,_,_⟩:=F71.ex
  subst e
  exact .of_eq (b71 kV doc pm an cdv ct us hl)
 ·skip
  have c0:=N0.cal (nv (P:=P) (w:=w) (base:=base) F0 T)
  have c1:=N1.cal (yF (P:=P) (w:=w) (base:=base) F1 c0)
  have c2:=N2.cal (zD (P:=P) (w:=w) (base:=base) F2 T c0 c1)
  have c3:=N3.cal (yr (P:=P) (w:=w) (base:=base) F3 T)
  have c4:=N4.cal (vW (P:=P) (w:=w) (base:=base) F4 T)
  have c5:=N5.cal (sQ (P:=P) (w:=w) (base:=base) F5 T c3 c4)
  have c6:=N6.cal (nz (P:=P) (w:=w) (base:=base) F6 T c1 c5)
  have c7:=N7.cal (jV (P:=P) (w:=w) (base:=base) F7 T c1 c5)
  have c8:=N8.cal (nh (P:=P) (w:=w) (base:=base) F8 T c2 c5)
  have c9:=N9.cal (vR (P:=P) (w:=w) (base:=base) F9 T)
  have c10:=N10.cal (nj (P:=P) (w:=w) (base:=base) F10 T)
  have c11:=N11.cal (lr (P:=P) (w:=w) (base:=base) F11 T c9 c10 c4)
  have c12:=N12.cal (mV (P:=P) (w:=w) (base:=base) F12 T c2 c3 c11)
  have c13:=N13.cal (pC (P:=P) (w:=w) (base:=base) F13)
  have c14:=N14.cal (wa (P:=P) (w:=w) (base:=base) F14)
  have c15:=N15.cal (tH (P:=P) (w:=w) (base:=base) F15 T c14)
  have c16:=N16.cal (sx (P:=P) (w:=w) (base:=base) F16 T c13 c15)
  have c17:=N17.cal (mT (P:=P) (w:=w) (base:=base) F17 c16)
  have c18:=N18.cal (vT (P:=P) (w:=w) (base:=base) F18 T c11)
  have cm:=zC (P:=P) (w:=w) (base:=base) T c18 c17 F19 N19 F20 N20 F21 N21 16
  have c19:=cm.1
  have c21:=cm.2
  have c22:=N22.cal (kQ (P:=P) (w:=w) (base:=base) F22 T c12 c2 c21)
  have c23:=N23.cal (qu (P:=P) (w:=w) (base:=base) F23 T)
  have c24:=N24.cal (tF (P:=P) (w:=w) (base:=base) F24 T)
  have c25:=N25.cal (sU (P:=P) (w:=w) (base:=base) F25 T c19 c24)
  have c27:=qi (P:=P) (w:=w) (base:=base) T c18 c17 c23 c25 F26 N26 F27 N27 16
  have c28:=N28.cal (jS (P:=P) (w:=w) (base:=base) F28 T c2 c12 c27)
  have c29:=N29.cal (mU (P:=P) (w:=w) (base:=base) F29 T c2 c12 c17 c23 c25)
  have c30:=N30.cal (uo (P:=P) (w:=w) (base:=base) F30 T)
  have c31:=N31.cal (pF (P:=P) (w:=w) (base:=base) F31 c30)
  have c32:=N32.cal (mZ (P:=P) (w:=w) (base:=base) F32 c31)
  have c33:=N33.cal (rQ (P:=P) (w:=w) (base:=base) F33 T)
  have c34:=N34.cal (su (P:=P) (w:=w) (base:=base) F34 T c33 c32)
  have c35:=N35.cal (nu (P:=P) (w:=w) (base:=base) F35 T c34)
  have c36:=N36.cal (jY (P:=P) (w:=w) (base:=base) F36 T c34)
  have c37:=N37.cal (qL (P:=P) (w:=w) (base:=base) F37 T)
  have c38:=N38.cal (tK (P:=P) (w:=w) (base:=base) F38)
  have c39:=N39.cal (mY (P:=P) (w:=w) (base:=base) F39 T c38 c37 c31)
  have c40:=N40.cal (mX (P:=P) (w:=w) (base:=base) F40 T)
  have c41:=N41.cal (tN (P:=P) (w:=w) (base:=base) F41 T)
  have c42:=N42.cal (lS (P:=P) (w:=w) (base:=base) F42 T c41 c40)
  have c43:=N43.cal (mW (P:=P) (w:=w) (base:=base) F43 T c42)
  have c44:=N44.cal (xQ (P:=P) (w:=w) (base:=base) F44)
  have c45:=N45.cal (vS (P:=P) (w:=w) (base:=base) F45 c43 c44)
  have c46:=N46.cal (tu (P:=P) (w:=w) (base:=base) F46)
  have c47:=N47.cal (rS (P:=P) (w:=w) (base:=base) F47 T c46)
  have c48:=N48.cal (jU (P:=P) (w:=w) (base:=base) F48 T2)
  have c49:=N49.cal (yG (P:=P) (w:=w) (base:=base) F49 T2)
  have c50:=N50.cal (uE (P:=P) (w:=w) (base:=base) F50 T)
  have c51:=N51.cal (xi (P:=P) (w:=w) (base:=base) F51 T T2 c46 c50)
  have c52:=N52.cal (yY (P:=P) (w:=w) (base:=base) F52 T2 c47)
  have c53:=N53.cal (wH (P:=P) (w:=w) (base:=base) F53 T T2 c47)
  have c54:=N54.cal (qc (P:=P) (w:=w) (base:=base) F54)
  have c55:=N55.cal (yX (P:=P) (w:=w) (base:=base) F55 T T2 c46 c54)
  have c56:=N56.cal (wx (P:=P) (w:=w) (base:=base) F56 T2 c46 c45)
  have c57:=N57.cal (tY (P:=P) (w:=w) (base:=base) F57 T T2 c46 c6 c48)
  have c58:=N58.cal (vO (P:=P) (w:=w) (base:=base) F58 T2 c46 c7)
  have c59:=N59.cal (xM (P:=P) (w:=w) (base:=base) F59 T2 c47 c8)
  have c60:=N60.cal (tR (P:=P) (w:=w) (base:=base) F60 c12)
  have c61:=N61.cal (zu (P:=P) (w:=w) (base:=base) F61 T T2 c22 c48)
  have c62:=N62.cal (ud (P:=P) (w:=w) (base:=base) F62 T2 c46 c28)
  have c63:=N63.cal (vK (P:=P) (w:=w) (base:=base) F63 T T2 c46 c29 c48)
  have c64:=N64.cal (rW (P:=P) (w:=w) (base:=base) F64 T2)
  have c65:=N65.cal (ye (P:=P) (w:=w) (base:=base) F65 T2 c46 c64 c35)
  have c66:=N66.cal (tw (P:=P) (w:=w) (base:=base) F66 T2 c46 c64 c36)
  have c67:=N67.cal (wO (P:=P) (w:=w) (base:=base) F67 T T2)
  have c68:=N68.cal (wY (P:=P) (w:=w) (base:=base) F68 T2 c46 c67 c39)
  let fs:Nat→Addr:=fun i=>[f49,f51,f52,f53,f55,f56,f57,f58,f59,f60,f61,f62,f63,f65,f66,f68].getD i 0
  let es:Nat→FuncData:=fun i=>[e49,e51,e52,e53,e55,e56,e57,e58,e59,e60,e61,e62,e63,e65,e66,e68].getD i e49
  have CS:Cals P w K mg base fs es:=⟨c49.mono (by decide),c51.mono (by decide),c52.mono (by decide),c53.mono (by decide),c55.mono (by decide),c56.mono (by decide),c57.mono (by decide),c58.mono (by decide),c59.mono (by decide),c60.mono (by decide),c61.mono (by decide),c62.mono (by decide),c63.mono (by decide),c65.mono (by decide),c66.mono (by decide),c68.mono (by decide)⟩
  have c69:=N69.cal (wq (P:=P) (w:=w) (base:=base) F69 T2 CS)
  have c70:=N70.cal (Af (P:=P) (w:=w) (base:=base) F70 T2)
  exact uz (P:=P) (w:=w) (base:=base) F71 T c70 c69
theorem bp{K:Frag}{h:Heap}{mg:Str→Option Value}(X:K.In h)(G:h.Ns mainGlobals mg){x:Str}{z:Int}{t:Tok}(a:nsIn K mainGlobals x=some (some (.int z t))):∃ t,mg x=some (.int z t):=⟨t,PySem.W.mg_of X G a⟩
theorem wG{K:Frag}{h:Heap}{mg:Str→Option Value}(X:K.In h)(G:h.Ns mainGlobals mg){p:Addr}{od:Option Addr}{n:Nat}{osl:Array (Option Value)}{t0 t1 t2 t3 t4 t5 t6 t7 t8 t9 t10 t11 t12 t13 t14 t15:Tok}
  (a:nsIn K mainGlobals "WIDTHS"=some (some (.ref p))) (l:K.lookup p=some ⟨.type "tuple",od,.seq #[.int 0 t0,.int 2 t1,.int 4 t2,.int 2 t3,.int 1 t4,.int 1 t5,.int 2 t6,.int 1 t7,.int 2 t8,.int 0 t9,.int 1 t10,.int 1 t11,.int 2 t12,.int 2 t13,.int 2 t14,.int 2 t15] n,osl⟩):∃ a,mg "WIDTHS"=some (.ref a)∧∀ H,SqT K H a ([0,2,4,2,1,1,2,1,2,0,1,1,2,2,2,2].map V.int):=
 ⟨p,PySem.W.mg_of X G a,fun H=> .inr ⟨_,_,_,l,rfl,rfl,by show 16≤sizeLine;decide,.cons ⟨t0,rfl⟩ (.cons ⟨t1,rfl⟩ (.cons ⟨t2,rfl⟩ (.cons ⟨t3,rfl⟩ (.cons ⟨t4,rfl⟩ (.cons ⟨t5,rfl⟩ (.cons ⟨t6,rfl⟩ (.cons ⟨t7,rfl⟩ (.cons ⟨t8,rfl⟩ (.cons ⟨t9,rfl⟩ (.cons ⟨t10,rfl⟩ (.cons ⟨t11,rfl⟩ (.cons ⟨t12,rfl⟩ (.cons ⟨t13,rfl⟩ (.cons ⟨t14,rfl⟩ (.cons ⟨t15,rfl⟩ .nil)))))))))))))))⟩⟩
theorem fin{P:Program}{w:World}{K:Frag}{mg:Str→Option Value}{fa:Addr}(hfa:mg "answers"=some (.ref fa))(T:Txt K mg)(T2:di K mg)(D:Defs K mg):
  ∃ fd:FuncData,(∀(s:Shared) (us:List Value),us.length=(["calls"]:List Str).length→BindsTo s fd ⟨us,[]⟩ ((["calls"]:List Str).zip us))∧∀ base:Heap,K.In base→base.Ns mainGlobals mg→FnOk P w K mg base CX0 92 fa fd ["calls"] (gG K):=by
 obtain⟨f,fd,h1,h2,h3⟩:=zU (P:=P) (w:=w) T T2 D
 have e:=hfa.symm.trans h1
 cases e
 exact⟨fd,h2,fun base _ _=>h3 base⟩
end GP
namespace PySem.W.Fast
def tw14827020207572315338:=0
def tw15152553989018096740:=0
def tw16974525703022542263:=0
def tw6659487105576705274:=0
def tw1768084118346755810:=0
def tw11270260778210175023:=0
def tw13656270422455274943:=0
def tw18232144357727567083:=0
def tw10303574402217181036:=0
def tw16161917723881269111:=0
def tw7337323547494295615:=0
def tw17383963813594699944:=0
def tw15318596782606860034:=0
def tw4710102344942893314:=0
def tw4267973479596277564:=0
def tw16173692013859857654:=0
def tw9632213218170792054:=0
def tw3394667247662711161:=0
def tw839927947628623962:=0
def tw11404522960439641403:=0
def tw12773249883842437421:=0
def tw10715372902370911531:=0
def tw12959457345882547074:=0
def tw15002192878929642047:=0
def tw5193125271531266486:=0
def tw15937675156627381026:=0
def tw10619515460850203510:=0
def tw6121528116863066554:=0
def tw12911674095947930:=0
def tw14569244423766149016:=0
def tw1634296543016548517:=0
def tw5937355083777316433:=0
def tw5053680048302059235:=0
def tw2551348316193077495:=0
def tw3262691969072481470:=0
def tw15428493405458803214:=0
def tw7574892790745063182:=0
def tw17739997589432735451:=0
def tw2432792149880972555:=0
def tw17387578291019801347:=0
def tw10518802551593202737:=0
def tw16813241368303483195:=0
def tw15541091308872246868:=0
def tw3631487092702007465:=0
def tw868353520588424499:=0
def tw16846261240954828058:=0
def tw3532175205936156950:=0
def tw17938770471948952222:=0
def tw1833787382288117306:=0
def tw7879967334347635999:=0
def tw13934225339300149664:=0
def tw2843844422360829579:=0
def tw14361011071945287217:=0
def tw2729430186620159171:=0
def tw4415480326758303782:=0
def tw10372635295808679894:=0
def tw9472295060141419177:=0
def tw1692629618377154008:=0
def tw8897941616220258347:=0
def tw2967240259031077625:=0
def tw3686295248272500265:=0
def tw2644389530133562760:=0
def tw12706986856486801375:=0
def tw5632297447938189013:=0
def tw2623424879140917174:=0
def tw10620098988209847053:=0
def tw1362547514511134472:=0
def tw9434012803302251822:=0
def tw7698759799599445936:=0
def tw8780104760221989067:=0
def tw11004321132469577365:=0
def tw6464806080781595255:=0
def tw2728342623580924552:=0
def tw5452965975039904574:=0
def tw13409910415167262545:=0
def tw11242715160121709749:=0
def tw5242510979441209047:=0
def tw14103904098014437495:=0
def tw1329495180548662889:=0
def tw8548904820926919674:=0
def tw9357044444103310920:=0
def tw11470074143691792840:=0
def tw12511008156005637780:=0
def tw7940199087892795209:=0
def tw2220775799279943294:=0
def tw13820634581621862090:=0
def tw15902285553795074413:=0
def tw8150328542678064959:=0
def tw2985771790857521807:=0
def tw13059920027499087176:=0
def tw17831084148885570355:=0
def tw11727198635838574693:=0
def tw14035730640733704473:=0
def tw224246238264966102:=0
def tw15309919666646031284:=0
def tw4815364006385905522:=0
def tw18032053829228726144:=0
def tw5903460244772494676:=0
def tw122759213205040135:=0
def tw3279558929209703655:=0
def tw5693469410542044571:=0
def tw4482796381067446150:=0
def tw9250603035895800947:=0
def tw2987101157884480660:=0
def tw14567687073632620226:=0
def tw13905850540131743700:=0
def tw12290707225224410269:=0
def tw16159620627535606294:=0
def tw9199299343733782595:=0
def tw4337898040017119430:=0
def tw12874827491918296807:=0
def tw14389221130271665263:=0
def tw2915669894800589598:=0
def tw344658671709320878:=0
def tw13222393267607003671:=0
def tw7626839757082007301:=0
def tw9727147646378788630:=0
def tw18293142721261350965:=0
def tw14034106629988747215:=0
def tw3821090642468479956:=0
def tw4962321611629660475:=0
def tw637522345887449999:=0
def tw4039148537474538827:=0
def tw3956396517620251203:=0
def tw11906414765010356716:=0
def tw11770124451952322424:=0
def tw9012653102872683853:=0
def tw7334198889742074282:=0
def tw771930696919467016:=0
def tw11682993132664235385:=0
def tw7814597996004529496:=0
def tw10116296937359386057:=0
def tw14536454541369937440:=0
def tw12606248505595717401:=0
def tw12134298057027758631:=0
def tw3379103781789202356:=0
def tw18430055408237947012:=0
def tw12898047688469988715:=0
def tw5012608130303956726:=0
def tw4489305353484483323:=0
def tw704092748086921960:=0
def tw10759676741410990269:=0
def tw3785297621063954143:=0
def tw10208679880318350902:=0
def tw14190545181953965588:=0
def tw1794400369252699618:=0
def tw4338576074221239498:=0
def tw5529722133619259710:=0
def tw17353781164115364768:=0
def tw15824136957592318835:=0
def tw7082831121328796537:=0
def tw10221626398644543149:=0
def tw16182989826184219822:=0
def tw2844590751206156797:=0
def tw13118279911013660359:=0
def tw9083142469999662477:=0
def tw4020928601736132418:=0
def tw3166802176842612264:=0
def tw18411817510593464739:=0
def tw10855232359779650263:=0
def tw17035846385063995759:=0
def tw249334346582340734:=0
def tw10258623717113713551:=0
def tw4301921030810641208:=0
def tw14500454575672640135:=0
def tw12990217564083747617:=0
def tw13339509874017315803:=0
def tw64797919167331976:=0
def tw13858509390031415721:=0
def tw10294945648646027388:=0
def tw2620839179437062978:=0
def tw3218771578374258946:=0
def tw7034262095028012168:=0
def tw6384857667816073219:=0
def tw7210067706430405904:=0
def tw17167829780894725005:=0
def tw1304207185374107622:=0
def tw17490966389697002438:=0
def tw58297493676662335:=0
def tw5849476260620372086:=0
def tw17407527376940696953:=0
def tw14311228920928307036:=0
def tw14114283386618426155:=0
def tw18203886619040070570:=0
def tw2680304514716555359:=0
def tw5485968390664037965:=0
def tw16861484353713124238:=0
def tw10332456943382624635:=0
def tw13420784255003628936:=0
def tw17978316774491275758:=0
def tw1123748115702619542:=0
def tw5835925696392194486:=0
def tw18133125167305190569:=0
def tw6068245154001775129:=0
def tw17996430599211564475:=0
def tw18172013907751293974:=0
def tw8238231468030568998:=0
def tw7745411639405476181:=0
def tw15995201121148236536:=0
def tw15906995076474157941:=0
def tw5752894814321787889:=0
def tw3366629359682887100:=0
def tw13728825053175936882:=0
def tw7795610585982353100:=0
def tw17097354282100243486:=0
def tw10170390972791087836:=0
def tw657925912656953503:=0
def tw5723101296730993187:=0
def tw4681399478606259015:=0
def tw10126210805923573090:=0
def tw8712925138439643484:=0
def tw5553472804913077997:=0
def tw4524126441575901239:=0
def tw11433756108335884125:=0
def tw3494835156539391874:=0
def tw5548685963456354212:=0
def tw6352914096447883335:=0
def tw13706420450261727284:=0
def tw18442279142840260166:=0
def tw16964319980825245457:=0
def tw1014365974835800619:=0
def tw7150691223045843406:=0
def tw16928354481537675863:=0
def tw4989074334018160592:=0
def tw17953984403735385538:=0
def tw11407897617734535009:=0
def tw3965501838309870398:=0
def tw10696268456173645943:=0
def tw15893371393424741362:=0
def tw13110693591559077188:=0
def tw14066996206439133790:=0
def tw918953058130810889:=0
def tw17216651703613409219:=0
def tw10251401059115337605:=0
def tw14666735375511273862:=0
def tw15389031876798513450:=0
def tw11394535420200599162:=0
def tw8400513729315505831:=0
def tw5067215281054188975:=0
def tw1249634132122078099:=0
def tw17826574350503488547:=0
def tw5527435639637837175:=0
def tw12789018881708472566:=0
def tw8404983026067763273:=0
def tw5648213601739258056:=0
def tw10541710550440032383:=0
def tw4038949581202205484:=0
def tw1739743109205564020:=0
def tw12606272062791327776:=0
def tw11671605441888302974:=0
def tw17410854125203516656:=0
def tw16859488055765131373:=0
def tw8200511272852183833:=0
def tw13654405495470319251:=0
def tw3502388986949473062:=0
def tw1928705328667039929:=0
def tw1383763741333640658:=0
def tw5012832138138993732:=0
def tw15722098392787541183:=0
def tw1569210981026113756:=0
def tw5679120517674397083:=0
def tw12238855909346285928:=0
def tw6152138875721581229:=0
def tw15815505935253856440:=0
def tw16107036739673192459:=0
def tw732140482422123831:=0
def tw2972435001330091425:=0
def tw15502316276747044992:=0
def tw15928052575398102801:=0
def tw4504570749922893001:=0
def tw2122825727608065257:=0
def tw11543260236511339769:=0
def tw7145120022439370466:=0
def tw6559826101994659106:=0
def tw11857885858885550310:=0
def tw8844968746962484751:=0
def tw11856250874812589427:=0
def tw13561377777928609389:=0
def tw11680615064583699324:=0
def tw17649327998744951785:=0
def tw6527844291539036544:=0
def tw3001455407828181012:=0
def tw8662343995426914302:=0
def tw16126903675056376970:=0
def tw12631251215734426197:=0
def tw4008989487205231879:=0
def tw9875234801578700516:=0
def tw7586113317698351332:=0
def tw18402503501362392322:=0
def tw4061444888893343779:=0
def tw5219946440293166244:=0
def tw13822646711995901232:=0
def tw2687064975438886980:=0
def tw3567327533593736630:=0
def tw11170285588612986592:=0
def tw5382401330551774329:=0
def tw9917936621553250501:=0
def tw11827665753345808610:=0
def tw12660112023232691334:=0
def tw886775717823586183:=0
def tw5351342109250255339:=0
def tw8186435820464331951:=0
def tw16239330890586929165:=0
def tw16556457257531353125:=0
def tw12931010586322277267:=0
def tw10469369945085553684:=0
def tw4544723689371425595:=0
def tw528668012168779146:=0
def tw1396181046980159753:=0
def tw16772577953516280730:=0
def tw13965040137857859764:=0
def tw11101827584133013464:=0
def tw15285862723975339:=0
def tw13080258674453919711:=0
def tw7513777825544333109:=0
def tw7077557883384747076:=0
def tw9303612361431459175:=0
def tw18128848720001540850:=0
def tw16958364596677071693:=0
def tw16417686544972197510:=0
def tw6780947123147258344:=0
def tw14160547127789991761:=0
def tw2948633340041252757:=0
def tw2678405894823268310:=0
def tw15940857723682094001:=0
def tw7429875241541944257:=0
def tw10913807277350420114:=0
def tw8651899719060545599:=0
def tw11123500328352370767:=0
def tw1572019838741778011:=0
def tw7785338590552847310:=0
def tw12876404934464927420:=0
def tw14326466342067184965:=0
def tw16213924099275569273:=0
def tw7589044206337340300:=0
def tw13085707880112673344:=0
def tw6530138203508657541:=0
def tw18327988757692119031:=0
def tw15117409462205877856:=0
def tw17087756378569993019:=0
def tw13768691121144538784:=0
def tw975079475324629496:=0
def tw4924099000572747911:=0
def tw1606278909241745195:=0
def tw14489267231937661551:=0
def tw13969280223778246800:=0
def tw4146013191236054579:=0
def tw8324171915343532088:=0
def tw529527819395429317:=0
def tw18286312819132798935:=0
def tw1254042930147443119:=0
def tw7316066936428737637:=0
def tw2639120478987543406:=0
def tw12753568180863137670:=0
def tw3182047104696273882:=0
def tw1618400707023793816:=0
def tw3634237198906111331:=0
def tw2692065942687651171:=0
def tw6742235023018807279:=0
def tw5196976952047676949:=0
def tw8403302344429379781:=0
def tw12527608471560611734:=0
def tw10479490893492592235:=0
def tw12558957999750388235:=0
def tw7632656658740178429:=0
def tw1498330964160761618:=0
def tw6079408417323656351:=0
def tw7680595222593115996:=0
def tw15462101196795984776:=0
def tw10260407274376499147:=0
def tw3467733781379402097:=0
def tw10799831969673963805:=0
def tw7847617792805402728:=0
def tw1456885211419418370:=0
def tw11506241370937767791:=0
def tw1756987138066513661:=0
def tw11421696849954659917:=0
def tw13151097341738136897:=0
def tw18216896354585258778:=0
def tw14807417234563862294:=0
def tw16799789751188585966:=0
def tw2848182507937750890:=0
def tw2566214753083066769:=0
def tw17328172702585361985:=0
def tw16150713057344623612:=0
def tw8189655641213996661:=0
def tw18296418868266059828:=0
def tw9332942632747002392:=0
def tw4631298002372410935:=0
def tw284119699656818515:=0
def tw9542209380752160398:=0
def tw7983955429352983695:=0
def tw4379454862224490873:=0
def tw10361922145391584258:=0
def tw3106713260059224883:=0
def tw2897633873766715266:=0
def tw5115921184039109787:=0
def tw10860658173448590070:=0
def tw7003563363278500655:=0
def tw16625640735016008990:=0
def tw16034364612582458741:=0
def tw5471103415116293609:=0
end PySem.W.Fast
open PySem PySem.W PyProof.Rows
set_option maxRecDepth 100000 in
set_option maxHeartbeats 0 in
theorem PySem.Challenge.cw_graphsame_s01_answers_holds : PySem.Challenge.rw_graphsame_s01_answers.Holds := by
 w_on;k_headS;(case hw=>exact⟨[.list [.int 0]],by decide +kernel,by decide +kernel⟩)
 k_fillS
 refine L2.uy (r:=PySem.Challenge.rw_graphsame_s01_answers) (k:=92) (CX:=L2.CX0) (ps:=["calls"]) (sp:=GP.gG) (by decide +kernel) rfl rfl ⟨rfl,by decide,by decide⟩ (fun w h Y=>PySem.W.kIn_of Y) ?F ?S (fun _ _ _ _ z=>z)
 case F=>
  intro w mg fa h Y KX G hmg
  refine' GP.fin hmg ?T ?T2 ?D
  case T=>
   refine'⟨?z0,?z1,?z2,?z3,?z4,?z5,?z6,?z7,?z8,?z9,?n0,?n1,?n2⟩
   (case z0=>refine' PySem.W.mg_none_of KX G ?a;(case a=>k_is))
   (case z1=>refine' PySem.W.mg_none_of KX G ?a;(case a=>k_is))
   (case z2=>refine' PySem.W.mg_none_of KX G ?a;(case a=>k_is))
   (case z3=>refine' PySem.W.mg_none_of KX G ?a;(case a=>k_is))
   (case z4=>refine' PySem.W.mg_none_of KX G ?a;(case a=>k_is))
   (case z5=>refine' PySem.W.mg_none_of KX G ?a;(case a=>k_is))
   (case z6=>refine' PySem.W.mg_none_of KX G ?a;(case a=>k_is))
   (case z7=>refine' PySem.W.mg_none_of KX G ?a;(case a=>k_is))
   (case z8=>refine' PySem.W.mg_none_of KX G ?a;(case a=>k_is))
   (case z9=>refine' PySem.W.mg_none_of KX G ?a;(case a=>k_is))
   (case n0=>refine' GP.bp KX G ?a;(case a=>k_is));(case n1=>refine' GP.bp KX G ?a;(case a=>k_is));(case n2=>refine' GP.bp KX G ?a;(case a=>k_is))
  case T2=>
   refine'⟨?m0,?m1,?m2,?m3,?m4,?m5,?m6,?m7,?m8,?m9,?m10,?m11,?m12,?m13,?m14,?m15,?m16,?m17,?m18,?m19,?m20,?m21,?w⟩
   (case m0=>refine' GP.bp KX G ?a;(case a=>k_is))
   (case m1=>refine' GP.bp KX G ?a;(case a=>k_is))
   (case m2=>refine' GP.bp KX G ?a;(case a=>k_is))
   (case m3=>refine' GP.bp KX G ?a;(case a=>k_is))
   (case m4=>refine' GP.bp KX G ?a;(case a=>k_is))
   (case m5=>refine' GP.bp KX G ?a;(case a=>k_is))
   (case m6=>refine' GP.bp KX G ?a;(case a=>k_is))
   (case m7=>refine' GP.bp KX G ?a;(case a=>k_is))
   (case m8=>refine' GP.bp KX G ?a;(case a=>k_is))
   (case m9=>refine' GP.bp KX G ?a;(case a=>k_is))
   (case m10=>refine' GP.bp KX G ?a;(case a=>k_is))
   (case m11=>refine' GP.bp KX G ?a;(case a=>k_is))
   (case m12=>refine' GP.bp KX G ?a;(case a=>k_is))
   (case m13=>refine' GP.bp KX G ?a;(case a=>k_is))
   (case m14=>refine' GP.bp KX G ?a;(case a=>k_is))
   (case m15=>refine' GP.bp KX G ?a;(case a=>k_is))
   (case m16=>refine' GP.bp KX G ?a;(case a=>k_is))
   (case m17=>refine' GP.bp KX G ?a;(case a=>k_is))
   (case m18=>refine' GP.bp KX G ?a;(case a=>k_is))
   (case m19=>refine' GP.bp KX G ?a;(case a=>k_is))
   (case m20=>refine' GP.bp KX G ?a;(case a=>k_is))
   (case m21=>refine' GP.bp KX G ?a;(case a=>k_is))
   (case w=>refine' GP.wG KX G ?a ?l;(case a=>k_is);(case l=>k_is))
  case D=>
   refine' GP.Defs.mk ?d0 ?d1 ?d2 ?d3 ?d4 ?d5 ?d6 ?d7 ?d8 ?d9 ?d10 ?d11 ?d12 ?d13 ?d14 ?d15 ?d16 ?d17 ?d18 ?d19 ?d20 ?d21 ?d22 ?d23 ?d24 ?d25 ?d26 ?d27 ?d28 ?d29 ?d30 ?d31 ?d32 ?d33 ?d34 ?d35 ?d36 ?d37 ?d38 ?d39 ?d40 ?d41 ?d42 ?d43 ?d44 ?d45 ?d46 ?d47 ?d48 ?d49 ?d50 ?d51 ?d52 ?d53 ?d54 ?d55 ?d56 ?d57 ?d58 ?d59 ?d60 ?d61 ?d62 ?d63 ?d64 ?d65 ?d66 ?d67 ?d68 ?d69 ?d70 ?d71
   (case d0=>refine' GP.aB KX G GP.b0 ?a ?l ?c ?k;(case a=>k_is);(case l=>k_is);(case c=>k_is);(case k=>k_is))
   (case d1=>refine' GP.aB KX G GP.b1 ?a ?l ?c ?k;(case a=>k_is);(case l=>k_is);(case c=>k_is);(case k=>k_is))
   (case d2=>refine' GP.aB KX G GP.b2 ?a ?l ?c ?k;(case a=>k_is);(case l=>k_is);(case c=>k_is);(case k=>k_is))
   (case d3=>refine' GP.aB KX G GP.b3 ?a ?l ?c ?k;(case a=>k_is);(case l=>k_is);(case c=>k_is);(case k=>k_is))
   (case d4=>refine' GP.aB KX G GP.b4 ?a ?l ?c ?k;(case a=>k_is);(case l=>k_is);(case c=>k_is);(case k=>k_is))
   (case d5=>refine' GP.aB KX G GP.b5 ?a ?l ?c ?k;(case a=>k_is);(case l=>k_is);(case c=>k_is);(case k=>k_is))
   (case d6=>refine' GP.aB KX G GP.b6 ?a ?l ?c ?k;(case a=>k_is);(case l=>k_is);(case c=>k_is);(case k=>k_is))
   (case d7=>refine' GP.aB KX G GP.b7 ?a ?l ?c ?k;(case a=>k_is);(case l=>k_is);(case c=>k_is);(case k=>k_is))
   (case d8=>refine' GP.aB KX G GP.b8 ?a ?l ?c ?k;(case a=>k_is);(case l=>k_is);(case c=>k_is);(case k=>k_is))
   (case d9=>refine' GP.aB KX G GP.b9 ?a ?l ?c ?k;(case a=>k_is);(case l=>k_is);(case c=>k_is);(case k=>k_is))
   (case d10=>refine' GP.aB KX G GP.b10 ?a ?l ?c ?k;(case a=>k_is);(case l=>k_is);(case c=>k_is);(case k=>k_is))
   (case d11=>refine' GP.aB KX G GP.b11 ?a ?l ?c ?k;(case a=>k_is);(case l=>k_is);(case c=>k_is);(case k=>k_is))
   (case d12=>refine' GP.aB KX G GP.b12 ?a ?l ?c ?k;(case a=>k_is);(case l=>k_is);(case c=>k_is);(case k=>k_is))
   (case d13=>refine' GP.aB KX G GP.b13 ?a ?l ?c ?k;(case a=>k_is);(case l=>k_is);(case c=>k_is);(case k=>k_is))
   (case d14=>refine' GP.aB KX G GP.b14 ?a ?l ?c ?k;(case a=>k_is);(case l=>k_is);(case c=>k_is);(case k=>k_is))
   (case d15=>refine' GP.aB KX G GP.b15 ?a ?l ?c ?k;(case a=>k_is);(case l=>k_is);(case c=>k_is);(case k=>k_is))
   (case d16=>refine' GP.aB KX G GP.b16 ?a ?l ?c ?k;(case a=>k_is);(case l=>k_is);(case c=>k_is);(case k=>k_is))
   (case d17=>refine' GP.aB KX G GP.b17 ?a ?l ?c ?k;(case a=>k_is);(case l=>k_is);(case c=>k_is);(case k=>k_is))
   (case d18=>refine' GP.aB KX G GP.b18 ?a ?l ?c ?k;(case a=>k_is);(case l=>k_is);(case c=>k_is);(case k=>k_is))
   (case d19=>refine' GP.aB KX G GP.b19 ?a ?l ?c ?k;(case a=>k_is);(case l=>k_is);(case c=>k_is);(case k=>k_is))
   (case d20=>refine' GP.aB KX G GP.b20 ?a ?l ?c ?k;(case a=>k_is);(case l=>k_is);(case c=>k_is);(case k=>k_is))
   (case d21=>refine' GP.aB KX G GP.b21 ?a ?l ?c ?k;(case a=>k_is);(case l=>k_is);(case c=>k_is);(case k=>k_is))
   (case d22=>refine' GP.aB KX G GP.b22 ?a ?l ?c ?k;(case a=>k_is);(case l=>k_is);(case c=>k_is);(case k=>k_is))
   (case d23=>refine' GP.aB KX G GP.b23 ?a ?l ?c ?k;(case a=>k_is);(case l=>k_is);(case c=>k_is);(case k=>k_is))
   (case d24=>refine' GP.aB KX G GP.b24 ?a ?l ?c ?k;(case a=>k_is);(case l=>k_is);(case c=>k_is);(case k=>k_is))
   (case d25=>refine' GP.aB KX G GP.b25 ?a ?l ?c ?k;(case a=>k_is);(case l=>k_is);(case c=>k_is);(case k=>k_is))
   (case d26=>refine' GP.aB KX G GP.b26 ?a ?l ?c ?k;(case a=>k_is);(case l=>k_is);(case c=>k_is);(case k=>k_is))
   (case d27=>refine' GP.aB KX G GP.b27 ?a ?l ?c ?k;(case a=>k_is);(case l=>k_is);(case c=>k_is);(case k=>k_is))
   (case d28=>refine' GP.aB KX G GP.b28 ?a ?l ?c ?k;(case a=>k_is);(case l=>k_is);(case c=>k_is);(case k=>k_is))
   (case d29=>refine' GP.aB KX G GP.b29 ?a ?l ?c ?k;(case a=>k_is);(case l=>k_is);(case c=>k_is);(case k=>k_is))
   (case d30=>refine' GP.aB KX G GP.b30 ?a ?l ?c ?k;(case a=>k_is);(case l=>k_is);(case c=>k_is);(case k=>k_is))
   (case d31=>refine' GP.aB KX G GP.b31 ?a ?l ?c ?k;(case a=>k_is);(case l=>k_is);(case c=>k_is);(case k=>k_is))
   (case d32=>refine' GP.aB KX G GP.b32 ?a ?l ?c ?k;(case a=>k_is);(case l=>k_is);(case c=>k_is);(case k=>k_is))
   (case d33=>refine' GP.aB KX G GP.b33 ?a ?l ?c ?k;(case a=>k_is);(case l=>k_is);(case c=>k_is);(case k=>k_is))
   (case d34=>refine' GP.aB KX G GP.b34 ?a ?l ?c ?k;(case a=>k_is);(case l=>k_is);(case c=>k_is);(case k=>k_is))
   (case d35=>refine' GP.aB KX G GP.b35 ?a ?l ?c ?k;(case a=>k_is);(case l=>k_is);(case c=>k_is);(case k=>k_is))
   (case d36=>refine' GP.aB KX G GP.b36 ?a ?l ?c ?k;(case a=>k_is);(case l=>k_is);(case c=>k_is);(case k=>k_is))
   (case d37=>refine' GP.aB KX G GP.b37 ?a ?l ?c ?k;(case a=>k_is);(case l=>k_is);(case c=>k_is);(case k=>k_is))
   (case d38=>refine' GP.aB KX G GP.b38 ?a ?l ?c ?k;(case a=>k_is);(case l=>k_is);(case c=>k_is);(case k=>k_is))
   (case d39=>refine' GP.aB KX G GP.b39 ?a ?l ?c ?k;(case a=>k_is);(case l=>k_is);(case c=>k_is);(case k=>k_is))
   (case d40=>refine' GP.aB KX G GP.b40 ?a ?l ?c ?k;(case a=>k_is);(case l=>k_is);(case c=>k_is);(case k=>k_is))
   (case d41=>refine' GP.aB KX G GP.b41 ?a ?l ?c ?k;(case a=>k_is);(case l=>k_is);(case c=>k_is);(case k=>k_is))
   (case d42=>refine' GP.aB KX G GP.b42 ?a ?l ?c ?k;(case a=>k_is);(case l=>k_is);(case c=>k_is);(case k=>k_is))
   (case d43=>refine' GP.aB KX G GP.b43 ?a ?l ?c ?k;(case a=>k_is);(case l=>k_is);(case c=>k_is);(case k=>k_is))
   (case d44=>refine' GP.aB KX G GP.b44 ?a ?l ?c ?k;(case a=>k_is);(case l=>k_is);(case c=>k_is);(case k=>k_is))
   (case d45=>refine' GP.aB KX G GP.b45 ?a ?l ?c ?k;(case a=>k_is);(case l=>k_is);(case c=>k_is);(case k=>k_is))
   (case d46=>refine' GP.aB KX G GP.b46 ?a ?l ?c ?k;(case a=>k_is);(case l=>k_is);(case c=>k_is);(case k=>k_is))
   (case d47=>refine' GP.aB KX G GP.b47 ?a ?l ?c ?k;(case a=>k_is);(case l=>k_is);(case c=>k_is);(case k=>k_is))
   (case d48=>refine' GP.aB KX G GP.b48 ?a ?l ?c ?k;(case a=>k_is);(case l=>k_is);(case c=>k_is);(case k=>k_is))
   (case d49=>refine' GP.aB KX G GP.b49 ?a ?l ?c ?k;(case a=>k_is);(case l=>k_is);(case c=>k_is);(case k=>k_is))
   (case d50=>refine' GP.aB KX G GP.b50 ?a ?l ?c ?k;(case a=>k_is);(case l=>k_is);(case c=>k_is);(case k=>k_is))
   (case d51=>refine' GP.aB KX G GP.b51 ?a ?l ?c ?k;(case a=>k_is);(case l=>k_is);(case c=>k_is);(case k=>k_is))
   (case d52=>refine' GP.aB KX G GP.b52 ?a ?l ?c ?k;(case a=>k_is);(case l=>k_is);(case c=>k_is);(case k=>k_is))
   (case d53=>refine' GP.aB KX G GP.b53 ?a ?l ?c ?k;(case a=>k_is);(case l=>k_is);(case c=>k_is);(case k=>k_is))
   (case d54=>refine' GP.aB KX G GP.b54 ?a ?l ?c ?k;(case a=>k_is);(case l=>k_is);(case c=>k_is);(case k=>k_is))
   (case d55=>refine' GP.aB KX G GP.b55 ?a ?l ?c ?k;(case a=>k_is);(case l=>k_is);(case c=>k_is);(case k=>k_is))
   (case d56=>refine' GP.aB KX G GP.b56 ?a ?l ?c ?k;(case a=>k_is);(case l=>k_is);(case c=>k_is);(case k=>k_is))
   (case d57=>refine' GP.aB KX G GP.b57 ?a ?l ?c ?k;(case a=>k_is);(case l=>k_is);(case c=>k_is);(case k=>k_is))
   (case d58=>refine' GP.aB KX G GP.b58 ?a ?l ?c ?k;(case a=>k_is);(case l=>k_is);(case c=>k_is);(case k=>k_is))
   (case d59=>refine' GP.aB KX G GP.b59 ?a ?l ?c ?k;(case a=>k_is);(case l=>k_is);(case c=>k_is);(case k=>k_is))
   (case d60=>refine' GP.aB KX G GP.b60 ?a ?l ?c ?k;(case a=>k_is);(case l=>k_is);(case c=>k_is);(case k=>k_is))
   (case d61=>refine' GP.aB KX G GP.b61 ?a ?l ?c ?k;(case a=>k_is);(case l=>k_is);(case c=>k_is);(case k=>k_is))
   (case d62=>refine' GP.aB KX G GP.b62 ?a ?l ?c ?k;(case a=>k_is);(case l=>k_is);(case c=>k_is);(case k=>k_is))
   (case d63=>refine' GP.aB KX G GP.b63 ?a ?l ?c ?k;(case a=>k_is);(case l=>k_is);(case c=>k_is);(case k=>k_is))
   (case d64=>refine' GP.aB KX G GP.b64 ?a ?l ?c ?k;(case a=>k_is);(case l=>k_is);(case c=>k_is);(case k=>k_is))
   (case d65=>refine' GP.aB KX G GP.b65 ?a ?l ?c ?k;(case a=>k_is);(case l=>k_is);(case c=>k_is);(case k=>k_is))
   (case d66=>refine' GP.aB KX G GP.b66 ?a ?l ?c ?k;(case a=>k_is);(case l=>k_is);(case c=>k_is);(case k=>k_is))
   (case d67=>refine' GP.aB KX G GP.b67 ?a ?l ?c ?k;(case a=>k_is);(case l=>k_is);(case c=>k_is);(case k=>k_is))
   (case d68=>refine' GP.aB KX G GP.b68 ?a ?l ?c ?k;(case a=>k_is);(case l=>k_is);(case c=>k_is);(case k=>k_is))
   (case d69=>refine' GP.aB KX G GP.b69 ?a ?l ?c ?k;(case a=>k_is);(case l=>k_is);(case c=>k_is);(case k=>k_is))
   (case d70=>refine' GP.aB KX G GP.b70 ?a ?l ?c ?k;(case a=>k_is);(case l=>k_is);(case c=>k_is);(case k=>k_is))
   (case d71=>refine' GP.aB KX G GP.b71 ?a ?l ?c ?k;(case a=>k_is);(case l=>k_is);(case c=>k_is);(case k=>k_is))
 case S=>
  intro K H xs a hO hwi hask hx
  cases hx with
  |cons h1 h2=>
   cases h2
   cases h1 with
   |lst hs ha=>
    have e:=L2.vF a.1 _ ha
    subst e
    have q:((Codec.inLen 0 30000 a.1&&a.1.all (Codec.inInt (-2147483648) 2147483647))&&true)=true:=hwi
    rw[Bool.and_eq_true,Bool.and_eq_true]at q
    have hl:=GS.tq (l:=a.1) hask
    exact⟨_,a.1,_,rfl,hs,(Codec.inNat_iff.mp q.1.1).2,hl.1,fun H' p hp=> .lst (L2.SqL.of hp) (L2.vI _)⟩
