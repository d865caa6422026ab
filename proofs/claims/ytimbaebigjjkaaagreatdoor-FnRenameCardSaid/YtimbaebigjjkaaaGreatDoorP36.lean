/- Kd, Ke, Nd. -/
import Derived.Test.YtimbaebigjjkaaaGreatDoorP35
import Derived.Deep.CutRange
namespace Go.Proofs.YtimbaebigjjkaaaGreatDoor
open Go.RowKit
theorem YO {P:Program} {ops:Array Oper} {o:Oper} {a:Act} {w:World} {K:Act→World→Prop} {Q:Exit→Act→World→Prop} {E:Prop}
  (hgd:o.guard=none) (s x:Operand) (t:TypeId) (ho:o.op = .call {callee:= .builtin .append,args:=#[s,x],argTypes:=#[t,t]})
  (base:Nat) (e:TypeId) (i:TypeInfo) (z:Value) (size bytes:Nat) (ht:P.underlying t=some (.slice e)) (hi:P.info? e=some i) (hz:i.zero=some z)
  (hsize:i.size=size) (hby:i.bytes=bytes) (hzs:z.cells.size=size) (hsz:0 < size)
  (v:Value) (n:Nat) (xs:List Value) (hs:a.eval s=v) (hown:w.ownsRow base e size v n xs)
  (ad:Addr) (m c:Nat) (news:List Value) (hx:a.eval x = .slice (some ad) m c) (hl:news.length=m * size) (hnews:∀ j u,news[j]?=some u→w.cell? (ad.add j)=some u) (h1:∀ u∈news,u.oneCell'=true)
  (h63:n+m≤maxLen) (hbytes:(n+m) * bytes≤140737488355328) (hbase:base≤w.heap.size)
  (hK:∀ v' w',w'.ownsRow base e size v' (n+m) (xs++news)→w.grownBy w' v.ownBlock→(v' = .slice none 0 0↔v = .slice none 0 0∧m=0)→(v'.ownBlock=v.ownBlock∨v'.ownBlock=some w.heap.size)→K (a.put o.dst v') w') :
  if Region.wanted o (yielded ops a.tmps)=true then Oper.wp P o a w K Q else E:=by
 have hw:Region.wanted o (yielded ops a.tmps)=true:=by simp [Region.wanted,hgd]
 rw [if_pos hw]
 obtain ⟨v',w',hr,h2,h3,h4,h5⟩:=run_append_own_at (P:=P) w base t o.type e i z size bytes ht hi hz hsize hby hzs hsz v n xs hown ad m c news hl hnews h1 h63 hbytes hbase
 unfold Oper.wp execOp
 simp only [ho,resolve,invoke,builtin,Sem.run_bind,Sem.run_pure,Result.andThen_ok,List.map_toArray,List.map_cons,List.map_nil,hs,hx,hr]
 exact hK _ _ h2 h3 h4 h5
abbrev ndO (d:Tr.Nd):Obj:= .cells #[.int .i64 d.kind,.int .i64 d.op,.int .i64 d.n,.string d.text,.int .i64 d.kids] 35
abbrev emO:Obj:= .cells #[] 96
abbrev knO (x:ByteArray) (k:Nat):Obj:= .cells #[.string x,.int .i64 k] 96
theorem em_row (w:World) (o:Obj):((w.alloc o).alloc emO).ownsRow (w.heap.size+1) 96 2 (.slice (some ⟨w.heap.size+1,0,none⟩) 0 0) 0 []:=by
 have:=World.ownsRow_lit (base:=w.heap.size+1) (e:=96) (size:=2) (w.alloc o) #[] 0 (by simp) (Nat.zero_le _) rfl
 rwa [World.size_alloc] at this
theorem em_row2 (w:World) (o p:Obj):(((w.alloc o).alloc p).alloc emO).ownsRow (w.heap.size+1) 96 2 (.slice (some ⟨w.heap.size+1+1,0,none⟩) 0 0) 0 []:=by
 have:=World.ownsRow_lit (base:=w.heap.size+1) (e:=96) (size:=2) ((w.alloc o).alloc p) #[] 0 (by simp) (Nat.zero_le _) rfl
 rwa [World.size_alloc,World.size_alloc] at this
theorem Zy (w:World) (o:Obj):Below w.heap.size w (w.alloc o):=bA _
theorem nd_cell (w:World) (d:Tr.Nd):(w.alloc (ndO d)).cell? ⟨w.heap.size,3,none⟩=some (.string d.text):=by rw [World.cell?,Xi];rfl
theorem JI (w:World) (x:ByteArray) (k:Nat):∀ (j:Nat) (u:Value),(Xu [(x,k)])[j]?=some u→(w.alloc (knO x k)).cell? ((⟨w.heap.size,0,none⟩:Addr).add j)=some u:=JJ w x k _
theorem QM {w X:World} {b:Nat} {x:ByteArray} {k:Nat} (h:∀ (j:Nat) (u:Value),(Xu [(x,k)])[j]?=some u→w.cell? ((⟨b,0,none⟩:Addr).add j)=some u) (hb:X.heap[b]?=w.heap[b]?):∀ (j:Nat) (u:Value),(Xu [(x,k)])[j]?=some u→X.cell? ((⟨b,0,none⟩:Addr).add j)=some u:=by
 intro j u hu
 have:=h j u hu
 rw [ZS] at this ⊢
 exact (World.cell?_of_block hb).trans this
set_option maxRecDepth 100000 in
set_option maxHeartbeats 4000000 in
theorem go1_step (ns:List Tr.Nd) (ks:List (List Nat)) (wb tg tc kg kc cg bg f:Nat) (hG:GoOk ns ks wb tg tc kg kc cg bg f (Xx ns ks f)) (hn:ns.length≤5000)
  (hkid:∀ k (h:k < ks.length),∀ x∈ks[k],x < k) (hlen:∀ k (h:k < ks.length),(ks[k]).length≤5000∧(X4 ns k=14→(ks[k]).length=2)∧(X4 ns k=16→1≤(ks[k]).length)∧(X4 ns k=15∨X4 ns k=20→1≤(ks[k]).length)):GoOk ns ks wb tg tc kg kc cg bg (f+1) (Xx ns ks (f+1)):=by
 intro k O N kn s w hkf a6 hb hF hD hK K L
 obtain ⟨iK,a3,a5,a4,a2⟩:=info_parts Tryz.infoKn
 have c4:k < ks.length:=by rw [hF.len];exact a6
 obtain ⟨n0,n1,n2,n3,n4⟩:=hF.nodes.2 k a6
 obtain ⟨rg,rc,b7,c6,c7,hri⟩:=hF.kids k c4
 have f0:=hF.f0
 have f1:=hF.f1
 have HG:=X1 hG
 have HF:=X1 hF
 have HD:=X1 hD
 have HK:=X1 hK
 have a1:=X1 (hkid k c4)
 have X:=hlen k c4
 rw [XJ a6] at X
 clear hlen
 have HKA:=X1 hkid
 have HRI:=X1 hri
 have a0:=X1 (show Xx ns ks (f+1) k kn s=(if ns[k].kind=5 then YJ ns k kn s
  else if ns[k].kind=23 then s
  else if ns[k].kind=15∨ns[k].kind=20 then Yh (Xx ns ks f) ns ks ks[k] [] kn false s
  else if ns[k].kind=14∨ns[k].kind=16 then Zl (Xx ns ks f) kn (kn++[(ns[k].text,k)]) s ks[k]
  else ks[k].foldl (fun s y=>Xx ns ks f y kn s) s) by
   rw [Xx,XJ a6,ZC a6,show X5 ks k=ks[k] from by simp [X5,c4]])
 have hc1:=(hD.c.lt cg rfl).2
 have hc2:=(hD.b.lt bg rfl).2
 have hkl:=HK.o.1
 have hw0:=hF.wlt
 have hw1:=hF.klt
 clear hG hF hD hK hkid hri
 generalize ns[k]=d at *
 generalize ks[k]=ls at *
 have HR1:=X1 (em_row w (ndO d)).drew
 have HR2:=X1 ((em_row w (ndO d)).alloc (knO d.text k)).drew
 have HR3:=X1 (em_row2 w (ndO d) (knO d.text k)).drew
 have d2:Below (w.heap.size+1) (w.alloc (ndO d)) ((w.alloc (ndO d)).alloc emO):=by have:=Zy (w.alloc (ndO d)) emO;rwa [World.size_alloc] at this
 have hb3:Below (w.heap.size+1) (w.alloc (ndO d)) ((w.alloc (ndO d)).alloc (knO d.text k)):=by have:=Zy (w.alloc (ndO d)) (knO d.text k);rwa [World.size_alloc] at this
 have F:=X1 d2.drew
 have H:=X1 (d2.alloc (by simp) (knO d.text k)).drew
 have I:=X1 (hb3.alloc (by simp) emO).drew
 have c3:=HK.o.kept (cg:=cg) (bg:=bg) ((Kp.refl _ _ _).alloc (ndO d)) K L
 have HN1:=X1 (kn_news (c3.kept (cg:=cg) (bg:=bg) (((Kp.refl _ _ _).alloc emO).drew) K L))
 have HN2:=X1 (kn_news (c3.kept (cg:=cg) (bg:=bg) ((((Kp.refl _ _ _).alloc emO).alloc (knO d.text k)).drew) K L))
 have HN3:=X1 (kn_news (c3.kept (cg:=cg) (bg:=bg) ((((Kp.refl _ _ _).alloc (knO d.text k)).alloc emO).drew) K L))
 have c5:=nd_cell w d
 have HC1:=X1 ((F.o.cell (p:=⟨w.heap.size,3,none⟩) (Nat.lt_succ_self _)).trans c5)
 have HC2:=X1 ((H.o.cell (p:=⟨w.heap.size,3,none⟩) (Nat.lt_succ_self _)).trans c5)
 have HC3:=X1 ((I.o.cell (p:=⟨w.heap.size,3,none⟩) (Nat.lt_succ_self _)).trans c5)
 have b9:Hid (w.heap.size+1≤((w.alloc (ndO d)).alloc emO).drew.heap.size):=X1 (by have:=F.o.size;rwa [World.size_alloc] at this)
 have c0:Hid (w.heap.size+1≤(((w.alloc (ndO d)).alloc emO).alloc (knO d.text k)).drew.heap.size):=X1 (by have:=H.o.size;rwa [World.size_alloc] at this)
 have c2:Hid (w.heap.size+1≤(((w.alloc (ndO d)).alloc (knO d.text k)).alloc emO).drew.heap.size):=X1 (by have:=I.o.size;rwa [World.size_alloc] at this)
 have HL1:=X1 (Nat.lt_of_lt_of_le (Nat.lt_succ_self _) b9.o)
 have HL2:=X1 (Nat.lt_of_lt_of_le (Nat.lt_succ_self _) c0.o)
 have HL3:=X1 (Nat.lt_of_lt_of_le (Nat.lt_succ_self _) c2.o)
 have d4:=JI ((w.alloc (ndO d)).alloc emO) d.text k
 rw [World.size_alloc,World.size_alloc] at d4
 have a9:=X1 (show ∀ (j:Nat) (u:Value),(Xu [(d.text,k)])[j]?=some u→(((w.alloc (ndO d)).alloc emO).alloc (knO d.text k)).drew.cell? ((⟨w.heap.size+1+1,0,none⟩:Addr).add j)=some u from d4)
 have d5:=JI (w.alloc (ndO d)) d.text k
 rw [World.size_alloc] at d5
 have b0:=X1 (show ∀ (j:Nat) (u:Value),(Xu [(d.text,k)])[j]?=some u→(((w.alloc (ndO d)).alloc (knO d.text k)).alloc emO).drew.cell? ((⟨w.heap.size+1,0,none⟩:Addr).add j)=some u from QM d5 (by have:=Zy ((w.alloc (ndO d)).alloc (knO d.text k)) emO;exact this.block _ (by simp)))
 have b1:Hid (w.heap.size+1+1 < (((w.alloc (ndO d)).alloc emO).alloc (knO d.text k)).drew.heap.size):=X1 (by show _ < (((w.alloc (ndO d)).alloc emO).alloc (knO d.text k)).heap.size;simp)
 have b2:Hid (w.heap.size+1 < (((w.alloc (ndO d)).alloc (knO d.text k)).alloc emO).drew.heap.size):=X1 (by show _ < (((w.alloc (ndO d)).alloc (knO d.text k)).alloc emO).heap.size;simp)
 clear d2 hb3 c3 c5 d4 d5
 have e1:=((Zy w (ndO d)).cell (p:=⟨wb,1,none⟩) hw0).trans f1
 have e2:=((Zy w (ndO d)).cell (p:=⟨kg,k,none⟩) hw1).trans b7
 go_enter Tryz.func57,Tryz.ntmps57
 go_upto_region 2 with fail
 go_cut [8] from 26 to 34 (fun v8 wx=>∃ g8 c8,v8 = .slice (some ⟨g8,0,none⟩) (kn.length+1) c8∧w.heap.size+1≤g8∧KnAt wx g8 (kn++[(d.text,k)])∧Below (w.heap.size+1) (w.alloc (ndO d)) wx)
 case first =>
  go_region_law (first
   | (refine YO rfl (.tmp 26) (.tmp 27) 93 rfl (w.heap.size+1) 96 iK _ 2 24 Tryz.underlying93 a3 a5 a4 a2 rfl (by decide) (.slice (some ⟨w.heap.size+1,0,none⟩) 0 0) 0 [] (by first | (simp [Act.eval];done) | simp [Act.eval,Act.put]) HR1.o ⟨O,0,none⟩ kn.length N (Xu kn) (by first | (simp [Act.eval];done) | simp [Act.eval,Act.put]) (ZQ kn) HN1.o (Yp kn) (by unfold maxLen;omega) (by omega) b9.o ?_;intro v1 w1 l g z C;rw [Nat.zero_add,List.nil_append] at l;obtain ⟨g1,c1,rfl,b5⟩:=Z9 l (fun e=>by simpa using z.1 e) (by simpa [Value.ownBlock] using C);have ht1:=(World.cell?_of_block (a:=⟨w.heap.size,3,none⟩) (g.block w.heap.size HL1.o (by simp [Value.ownBlock] <;> omega))).trans HC1.o;have A:Below (w.heap.size+1) (w.alloc (ndO d)) w1:=F.o.grown g b9.o (fun q e=>by simp [Value.ownBlock] at e;omega))
   | (refine YO rfl (.tmp 26) (.tmp 27) 93 rfl (w.heap.size+1) 96 iK _ 2 24 Tryz.underlying93 a3 a5 a4 a2 rfl (by decide) (.slice (some ⟨w.heap.size+1,0,none⟩) 0 0) 0 [] (by first | (simp [Act.eval];done) | simp [Act.eval,Act.put]) HR2.o ⟨O,0,none⟩ kn.length N (Xu kn) (by first | (simp [Act.eval];done) | simp [Act.eval,Act.put]) (ZQ kn) HN2.o (Yp kn) (by unfold maxLen;omega) (by omega) c0.o ?_;intro v1 w1 l g z C;rw [Nat.zero_add,List.nil_append] at l;obtain ⟨g1,c1,rfl,b5⟩:=Z9 l (fun e=>by simpa using z.1 e) (by simpa [Value.ownBlock] using C);have ht1:=(World.cell?_of_block (a:=⟨w.heap.size,3,none⟩) (g.block w.heap.size HL2.o (by simp [Value.ownBlock] <;> omega))).trans HC2.o;have A:Below (w.heap.size+1) (w.alloc (ndO d)) w1:=H.o.grown g c0.o (fun q e=>by simp [Value.ownBlock] at e;omega);have d1:=QM a9.o (g.block (w.heap.size+1+1) b1.o (by simp [Value.ownBlock] <;> omega)))
   | (refine YO rfl (.tmp 26) (.tmp 27) 93 rfl (w.heap.size+1) 96 iK _ 2 24 Tryz.underlying93 a3 a5 a4 a2 rfl (by decide) (.slice (some ⟨w.heap.size+1+1,0,none⟩) 0 0) 0 [] (by first | (simp [Act.eval];done) | simp [Act.eval,Act.put]) HR3.o ⟨O,0,none⟩ kn.length N (Xu kn) (by first | (simp [Act.eval];done) | simp [Act.eval,Act.put]) (ZQ kn) HN3.o (Yp kn) (by unfold maxLen;omega) (by omega) c2.o ?_;intro v1 w1 l g z C;rw [Nat.zero_add,List.nil_append] at l;obtain ⟨g1,c1,rfl,b5⟩:=Z9 l (fun e=>by simpa using z.1 e) (by simpa [Value.ownBlock] using C);have ht1:=(World.cell?_of_block (a:=⟨w.heap.size,3,none⟩) (g.block w.heap.size HL3.o (by simp [Value.ownBlock] <;> omega))).trans HC3.o;have A:Below (w.heap.size+1) (w.alloc (ndO d)) w1:=I.o.grown g c2.o (fun q e=>by simp [Value.ownBlock] at e;omega);have d1:=QM b0.o (g.block (w.heap.size+1) b2.o (by simp [Value.ownBlock] <;> omega)))
   | (refine YO rfl (.tmp 28) (.tmp 33) 93 rfl (w.heap.size+1) 96 iK _ 2 24 Tryz.underlying93 a3 a5 a4 a2 rfl (by decide) (.slice (some ⟨g1,0,none⟩) kn.length c1) kn.length (Xu kn) (by first | (simp [Act.eval];done) | simp [Act.eval,Act.put]) (l.alloc _) ⟨w1.heap.size,0,none⟩ 1 1 (Xu [(d.text,k)]) (by first | (simp [Act.eval];done) | simp [Act.eval,Act.put]) rfl (JI _ _ _) (Yp _) (by unfold maxLen;omega) (by omega) (by have:=A.size;simp at *;omega) ?_;intro v2 w2 v n D V;have c9:Below (w.heap.size+1) (w.alloc (ndO d)) w2:=(A.alloc (by have:=A.size;simp at *;omega) _).grown n (by have:=A.size;simp at *;omega) (fun q e=>by simp [Value.ownBlock] at e;omega))
   | (refine YO rfl (.tmp 28) (.tmp 33) 93 rfl (w.heap.size+1) 96 iK _ 2 24 Tryz.underlying93 a3 a5 a4 a2 rfl (by decide) (.slice (some ⟨g1,0,none⟩) kn.length c1) kn.length (Xu kn) (by first | (simp [Act.eval];done) | simp [Act.eval,Act.put]) l ⟨w.heap.size+1+1,0,none⟩ 1 1 (Xu [(d.text,k)]) (by first | (simp [Act.eval];done) | simp [Act.eval,Act.put]) rfl d1 (Yp _) (by unfold maxLen;omega) (by omega) (by have:=A.size;simp at *;omega) ?_;intro v2 w2 v n D V;have c9:Below (w.heap.size+1) (w.alloc (ndO d)) w2:=A.grown n (by have:=A.size;simp at *;omega) (fun q e=>by simp [Value.ownBlock] at e;omega))
   | (refine YO rfl (.tmp 28) (.tmp 33) 93 rfl (w.heap.size+1) 96 iK _ 2 24 Tryz.underlying93 a3 a5 a4 a2 rfl (by decide) (.slice (some ⟨g1,0,none⟩) kn.length c1) kn.length (Xu kn) (by first | (simp [Act.eval];done) | simp [Act.eval,Act.put]) l ⟨w.heap.size+1,0,none⟩ 1 1 (Xu [(d.text,k)]) (by first | (simp [Act.eval];done) | simp [Act.eval,Act.put]) rfl d1 (Yp _) (by unfold maxLen;omega) (by omega) (by have:=A.size;simp at *;omega) ?_;intro v2 w2 v n D V;have c9:Below (w.heap.size+1) (w.alloc (ndO d)) w2:=A.grown n (by have:=A.size;simp at *;omega) (fun q e=>by simp [Value.ownBlock] at e;omega)))
  all_goals
   go_wp2_with fail
   go_meet
   case rel =>
    obtain ⟨g8,c8,rfl,hg8⟩:=Z9 v (fun e=>by simpa using D.1 e) (by simpa [Value.ownBlock] using V)
    refine ⟨g8,c8,rfl,(v.lt g8 rfl).1,?_,c9⟩
    have hlen:(kn++[(d.text,k)]).length=kn.length+1:=by simp
    rw [← ZG,← hlen] at v
    exact Qp v
 case rest =>
  obtain ⟨g8,c8,rfl,hg8,hK8,d0⟩:=hcut
  have U:Below w.heap.size w wc:=(Zy w (ndO d)).trans (d0.mono (by omega))
  have hFc:=HF.o.kept (Kp.of_below (cg:=cg) (bg:=bg) U)
  have hDc:=HD.o.below U
  have hKc:=HK.o.kept (cg:=cg) (bg:=bg) (Kp.of_below U) K L
  have hIc:=HRI.o.below U
  have W:wc.cell? ⟨w.heap.size,0,none⟩=some (.int .i64 d.kind):=(d0.cell (p:=⟨w.heap.size,0,none⟩) (Nat.lt_succ_self _)).trans (by rw [World.cell?,Xi];rfl)
  have hcw:=U.size
  have P:=X1 hFc
  have Z:=X1 hDc
  have a8:=X1 hKc
  have J:=X1 hIc
  have HK8:=X1 hK8
  clear hFc hDc hKc hIc hK8 d0 HR1 HR2 HR3 F H I HN1 HN2 HN3 HC1 HC2 HC3 b9 c0 c2 HL1 HL2 HL3 a9 b0 b1 b2 e1 e2 f0 f1 n0 n1 n2 n3 n4 b7
  have Y:=X1 U
  clear U
  by_cases h5:d.kind=5
  ·have m:Hid (Xx ns ks (f+1) k kn s=YJ ns k kn s):=X1 (by rw [a0.o,if_pos h5])
   rw [h5] at W
   go_wp2_with fail
   refine (use_any ns ks wb tg tc kg kc cg bg k O N kn s wc a6 (by omega) P.o Z.o a8.o).mono ?_
   rintro e w3 ⟨rfl,E,M⟩
   go_wp2
   (first | go_end0 | refine bodyPost_ret (results_none rfl _ _ _) rfl ?_)
   exact ⟨rfl,(Kp.of_below Y.o).trans E,by rw [m.o];exact M⟩
  by_cases h23:d.kind=23
  ·have m:Hid (Xx ns ks (f+1) k kn s=s):=X1 (by rw [a0.o,if_neg h5,if_pos h23])
   rw [h23] at W
   go_wp2
   (first | go_end0 | refine bodyPost_ret (results_none rfl _ _ _) rfl ?_)
   exact ⟨rfl,Kp.of_below Y.o,by rw [m.o];exact Z.o⟩
  have q5:(d.kind == 5)=false:=by simpa using h5
  have q23:(d.kind == 23)=false:=by simpa using h23
  by_cases h15:d.kind=15∨d.kind=20
  ·have m:Hid (Xx ns ks (f+1) k kn s=Yh (Xx ns ks f) ns ks ls [] kn false s):=X1 (by rw [a0.o,if_neg h5,if_neg h23,if_pos h15])
   have HFN:=X1 (function_any ns ks wb tg tc kg kc cg bg f (Xx ns ks f) HG.o hn HKA.o ls rg rc O N kn s wc (fun x hx=>by have:=a1.o x hx;omega) (X.2.2.2 h15) X.1 (by omega) P.o Z.o a8.o J.o c6 c7 (by omega) (by omega))
   rcases h15 with h15 | h15
   all_goals
    rw [h15] at W
    go_wp2_with fail
    refine HFN.o.mono ?_
    rintro e w3 ⟨rfl,E,M⟩
    go_wp2
    (first | go_end0 | refine bodyPost_ret (results_none rfl _ _ _) rfl ?_)
    exact ⟨rfl,(Kp.of_below Y.o).trans E,by rw [m.o];exact M⟩
  have q15:(d.kind == 15)=false:=by simp;omega
  have q20:(d.kind == 20)=false:=by simp;omega
  by_cases h14:d.kind=14
  ·have hl2:=X.2.1 h14
   obtain ⟨x,y,rfl⟩:∃ x y,ls=[x,y]:=by
    match ls,hl2 with
    | [x,y],_=>exact ⟨x,y,rfl⟩
   have m:Hid (Xx ns ks (f+1) k kn s=Xx ns ks f y (kn++[(d.text,k)]) (Xx ns ks f x kn s)):=X1 (by rw [a0.o,if_neg h5,if_neg h23,if_neg h15,if_pos (.inl h14)];rfl)
   have b8:=J.o.2 0 (by simp)
   have d6:=J.o.2 1 (by simp)
   simp only [Nat.zero_add,List.getElem_cons_zero,List.getElem_cons_succ] at b8 d6
   have hxk:=a1.o x (by simp)
   have hyk:=a1.o y (by simp)
   rw [h14] at W
   go_wp2_with fail
   refine (HG.o x O N kn s wc (by omega) (by omega) (by omega) P.o Z.o a8.o K L).mono ?_
   rintro e w3 ⟨rfl,E,M⟩
   have hx13:=(E.cell (p:=⟨rg,1,none⟩) J.o.1 c6 c7).trans d6
   have hF3:=P.o.kept E
   have hK3:=HK8.o.kept E (by omega) (by omega)
   have d3:(kn++[(d.text,k)]).length=kn.length+1:=by simp
   have Q:=X1 (HG.o y g8 c8 (kn++[(d.text,k)]) (Xx ns ks f x kn s) w3 (by omega) (by omega) (by omega) hF3 M hK3 (by omega) (by omega))
   rw [d3] at Q
   clear hF3 hK3 b8 d6 W
   go_wp2_with fail
   refine Q.o.mono ?_
   rintro e w4 ⟨rfl,b6,b4⟩
   go_wp2
   (first | go_end0 | refine bodyPost_ret (results_none rfl _ _ _) rfl ?_)
   exact ⟨rfl,((Kp.of_below Y.o).trans E).trans b6,by rw [m.o];exact b4⟩
  have q14:(d.kind == 14)=false:=by simpa using h14
  by_cases h16:d.kind=16
  ·have hl1:=X.2.2.1 h16
   obtain ⟨x,r,rfl⟩:∃ x r,ls=x :: r:=by
    match ls,hl1 with
    | x :: r,_=>exact ⟨x,r,rfl⟩
   have m:Hid (Xx ns ks (f+1) k kn s=r.foldl (fun s y=>Xx ns ks f y (kn++[(d.text,k)]) s) (Xx ns ks f x kn s)):=X1 (by rw [a0.o,if_neg h5,if_neg h23,if_neg h15,if_pos (.inr h16)];rfl)
   have b8:=J.o.2 0 (by simp)
   simp only [Nat.zero_add,List.getElem_cons_zero] at b8
   have hxk:=a1.o x (by simp)
   have hrl:(x :: r).length=r.length+1:=rfl
   have hr5:=X.1
   rw [hrl] at hr5
   rw [h16] at W
   go_wp2_with fail
   refine (HG.o x O N kn s wc (by omega) (by omega) (by omega) P.o Z.o a8.o K L).mono ?_
   rintro e w3 ⟨rfl,E,M⟩
   have HD3:=X1 M
   clear M b8 W
   go_wp2
   go_loopw [9] (fun t wr=>∃ i:Nat,i≤r.length∧t = .int .i64 ((i:Int)+1)∧Kp cg bg wc wr∧Dy ns.length cg bg ((r.take i).foldl (fun s y=>Xx ns ks f y (kn++[(d.text,k)]) s) (Xx ns ks f x kn s)) wr) (fun t _=>r.length+1 - (intOf t).toNat)
   case atStart=>exact ⟨0,Nat.zero_le _,rfl,E,HD3.o⟩
   case round =>
    obtain ⟨i,hi,rfl,B,b3⟩:=hrel
    have a7:=X1 b3
    clear b3
    by_cases hlt:i < r.length
    ·have d7:=(B.cell (p:=⟨rg,0+(i+1),none⟩) J.o.1 c6 c7).trans (J.o.2 (i+1) (by simp;omega))
     simp only [Nat.zero_add,List.getElem_cons_succ] at d7
     have hyk:=a1.o r[i] (by simp)
     have d3:(kn++[(d.text,k)]).length=kn.length+1:=by simp
     have Q:=X1 (HG.o r[i] g8 c8 (kn++[(d.text,k)]) _ wr (by omega) (by omega) (by omega) (P.o.kept B) a7.o (HK8.o.kept B (by omega) (by omega)) (by omega) (by omega))
     rw [d3] at Q
     have S:=X1 (show (r.take (i+1)).foldl (fun s y=>Xx ns ks f y (kn++[(d.text,k)]) s) (Xx ns ks f x kn s)=Xx ns ks f r[i] (kn++[(d.text,k)]) ((r.take i).foldl (fun s y=>Xx ns ks f y (kn++[(d.text,k)]) s) (Xx ns ks f x kn s)) by rw [List.take_succ_eq_append_getElem hlt,List.foldl_append];rfl)
     generalize r[i]=y at *
     go_wp2_with fail
     refine Q.o.mono ?_
     rintro e w4 ⟨rfl,b6,b4⟩
     go_wp2
     go_roundw
     case rel=>exact ⟨i+1,by omega,by go_num,B.trans b6,by rw [S.o];exact b4⟩
     case measure=>simp [intOf];omega
    ·have S:=X1 (show r.take i=r from List.take_of_length_le (by omega))
     go_wp2
     (first | go_end0 | refine bodyPost_ret (results_none rfl _ _ _) rfl ?_)
     exact ⟨rfl,(Kp.of_below Y.o).trans B,by rw [m.o];have:=a7.o;rwa [S.o] at this⟩
  have q16:(d.kind == 16)=false:=by simpa using h16
  have m:Hid (Xx ns ks (f+1) k kn s=ls.foldl (fun s y=>Xx ns ks f y kn s) s):=X1 (by rw [a0.o,if_neg h5,if_neg h23,if_neg h15,if_neg (by omega)])
  have hr5:=X.1
  go_wp2
  go_loopw [10] (fun t wr=>∃ i:Nat,i≤ls.length∧t = .int .i64 i∧Kp cg bg wc wr∧Dy ns.length cg bg ((ls.take i).foldl (fun s y=>Xx ns ks f y kn s) s) wr) (fun t _=>ls.length - (intOf t).toNat)
  case atStart=>exact ⟨0,Nat.zero_le _,rfl,Kp.refl _ _ _,Z.o⟩
  case round =>
   obtain ⟨i,hi,rfl,B,b3⟩:=hrel
   have a7:=X1 b3
   clear b3
   by_cases hlt:i < ls.length
   ·have d7:=(B.cell (p:=⟨rg,0+i,none⟩) J.o.1 c6 c7).trans (J.o.2 i hlt)
    simp only [Nat.zero_add] at d7
    have hyk:=a1.o ls[i] (List.getElem_mem hlt)
    have Q:=X1 (HG.o ls[i] O N kn _ wr (by omega) (by omega) (by omega) (P.o.kept B) a7.o (a8.o.kept B K L) K L)
    have S:=X1 (show (ls.take (i+1)).foldl (fun s y=>Xx ns ks f y kn s) s=Xx ns ks f ls[i] kn ((ls.take i).foldl (fun s y=>Xx ns ks f y kn s) s) by rw [List.take_succ_eq_append_getElem hlt,List.foldl_append];rfl)
    generalize ls[i]=y at *
    go_wp2_with fail
    refine Q.o.mono ?_
    rintro e w4 ⟨rfl,b6,b4⟩
    go_wp2
    go_roundw
    case rel=>exact ⟨i+1,by omega,by go_num,B.trans b6,by rw [S.o];exact b4⟩
    case measure=>simp [intOf];omega
   ·have S:=X1 (show ls.take i=ls from List.take_of_length_le (by omega))
    go_wp2
    (first | go_end0 | refine bodyPost_ret (results_none rfl _ _ _) rfl ?_)
    exact ⟨rfl,(Kp.of_below Y.o).trans B,by rw [m.o];have:=a7.o;rwa [S.o] at this⟩
theorem go1_any (ns:List Tr.Nd) (ks:List (List Nat)) (wb tg tc kg kc cg bg:Nat) (hn:ns.length≤5000) (hkid:∀ k (h:k < ks.length),∀ x∈ks[k],x < k)
  (hlen:∀ k (h:k < ks.length),(ks[k]).length≤5000∧(X4 ns k=14→(ks[k]).length=2)∧(X4 ns k=16→1≤(ks[k]).length)∧(X4 ns k=15∨X4 ns k=20→1≤(ks[k]).length)) (f:Nat) :
  GoOk ns ks wb tg tc kg kc cg bg f (Xx ns ks f):=by
 induction f with
 | zero=>intro k kng knc kn s w hkf;omega
 | succ f ih=>exact go1_step ns ks wb tg tc kg kc cg bg f ih hn hkid hlen
def Ks (ns:List Tr.Nd) (ks:List (List Nat)) (x:Nat):List Nat:=if X4 ns x=20∨X4 ns x=21 then [x] else if X4 ns x=23 then X5 ks x else []
def Xs (ns:List Tr.Nd) (ks:List (List Nat)) (fl:List Nat):List Nat:=fl.flatMap (Ks ns ks)
theorem Jl (ns:List Tr.Nd) (ks:List (List Nat)) (fl:List Nat) (i:Nat) (h:i < fl.length):Xs ns ks (fl.take (i+1))=Xs ns ks (fl.take i)++Ks ns ks fl[i]:=by
 unfold Xs
 rw [List.take_succ_eq_append_getElem h,List.flatMap_append,List.flatMap_cons,List.flatMap_nil,List.append_nil]
structure KidsAt (ks:List (List Nat)) (kg:Nat) (w:World):Prop where
 klt:kg < w.heap.size
 kids:∀ k (h:k < ks.length),∃ g c,w.cell? ⟨kg,k,none⟩=some (.slice (some ⟨g,0,none⟩) (ks[k]).length c)∧IntsAt w g 0 ks[k]
theorem KidsAt.below {ks:List (List Nat)} {kg:Nat} {w w':World} (h:KidsAt ks kg w) (hb:Below w.heap.size w w'):KidsAt ks kg w':=by
 refine ⟨Nat.lt_of_lt_of_le h.klt hb.size,fun k hk=>?_⟩
 obtain ⟨g,c,h1,h2⟩:=h.kids k hk
 exact ⟨g,c,(hb.cell (p:=⟨kg,k,none⟩) h.klt).trans h1,h2.below hb⟩
set_option maxRecDepth 100000 in
set_option maxHeartbeats 2000000 in
theorem makes_any (ns:List Tr.Nd) (ks:List (List Nat)) (tg tc kg kc m:Nat) (w:World) (hn:ns.length=m+1) (hn5:ns.length≤5000) (hkl:ks.length=ns.length) (hks:∀ k (h:k < ks.length),∀ x∈ks[k],x < ns.length) (hlen:∀ k (h:k < ks.length),(ks[k]).length≤5000)
  (ht:NodesAt w tg ns) (hK:KidsAt ks kg w) :
  Calls Tryz.prog 55 #[.agg #[.slice (some ⟨tg,0,none⟩) ns.length tc],.slice (some ⟨kg,0,none⟩) ns.length kc] w fun e w'=>∃ g5 c5,e = .returned (.slice (some ⟨g5,0,none⟩) (Xs ns ks (X5 ks m)).length c5)∧w.heap.size≤g5∧IntsAt w' g5 0 (Xs ns ks (X5 ks m))∧(Xs ns ks (X5 ks m)).length≤25000000∧Below w.heap.size w w':=by
 obtain ⟨iI,hI,hIz,hIs,hIb⟩:=info_parts Tryz.infoInt
 have r1:Below w.heap.size w (w.alloc (.cells #[.slice (some ⟨tg,0,none⟩) ns.length tc] 25)):=bA _
 have hm:m < ks.length:=by omega
 obtain ⟨fg,fc,hf1,hf2⟩:=hK.kids m hm
 have hko:X5 ks m=ks[m]:=by simp [X5,hm]
 rw [hko]
 have hfl:=hlen m hm
 have HFX:=X1 (hks m hm)
 have a2:=hK.klt
 have HT:=X1 ht
 have HK:=X1 hK
 have HLN:=X1 hlen
 have HF2:=X1 hf2
 have k0:=((bA (.cells #[.slice (some ⟨tg,0,none⟩) ns.length tc] 25)).cell (p:=⟨kg,m,none⟩) a2).trans hf1
 have k1:=(((bA (.cells #[.slice (some ⟨tg,0,none⟩) ns.length tc] 25)).alloc (by simp) (.cells #[] 3)).cell (p:=⟨kg,m,none⟩) a2).trans hf1
 clear ht hK hlen hf2 hks
 generalize ks[m]=fl at *
 rw [hn] at r1 k0 k1 ⊢
 go_enter Tryz.func55,Tryz.ntmps55
 go_wp2
 go_loopw [5,7] (fun v5 t wr=>∃ (i g5 c5:Nat),i≤fl.length∧t = .int .i64 i∧v5 = .slice (some ⟨g5,0,none⟩) (Xs ns ks (fl.take i)).length c5∧wr.ownsRow (w.heap.size+1) 3 1 (.slice (some ⟨g5,0,none⟩) (Xs ns ks (fl.take i)).length c5) (Xs ns ks (fl.take i)).length ((Xs ns ks (fl.take i)).map vint)∧(Xs ns ks (fl.take i)).length≤i*5000 ∧
   Below w.heap.size w wr∧w.heap.size < wr.heap.size∧wr.cell? ⟨w.heap.size,0,none⟩=some (.slice (some ⟨tg,0,none⟩) (m+1) tc)) (fun _ t _=>fl.length - (intOf t).toNat)
 case atStart =>
  refine ⟨0,w.heap.size+1,0,Nat.zero_le _,rfl,rfl,?_,Nat.zero_le _,?_,by rw [World.size_alloc,World.size_alloc];omega,?_⟩
  ·have:=World.ownsRow_lit (base:=w.heap.size+1) (e:=3) (size:=1) (w.alloc (.cells #[.slice (some ⟨tg,0,none⟩) (m+1) tc] 25)) #[] 0 (by simp) (Nat.zero_le _) rfl
   rw [World.size_alloc] at this
   exact this
  ·exact r1.alloc (by simp) _
  ·have h1:Below (w.heap.size+1) (w.alloc (.cells #[.slice (some ⟨tg,0,none⟩) (m+1) tc] 25)) ((w.alloc (.cells #[.slice (some ⟨tg,0,none⟩) (m+1) tc] 25)).alloc (.cells #[] 3)):=(Below.refl _ _).alloc (by simp) _
   exact (h1.cell (p:=⟨w.heap.size,0,none⟩) (Nat.lt_succ_self _)).trans (by simp)
 case round =>
  obtain ⟨i,g5,c5,hi,rfl,rfl,ho,hol,hB,a3,n⟩:=hrel
  have HO:=X1 ho
  clear ho
  by_cases hlt:i < fl.length
  ·have hx:=(HF2.o.below hB).2 i hlt
   rw [Nat.zero_add] at hx
   have hxn:fl[i] < ns.length:=HFX.o _ (List.getElem_mem hlt)
   have v:fl[i] < ks.length:=by omega
   obtain ⟨a0,_⟩:=(HT.o.below hB).2 fl[i] hxn
   have HM:=X1 (Jl ns ks fl i hlt)
   have g:=X1 (show Ks ns ks fl[i]=if ns[fl[i]].kind=20∨ns[fl[i]].kind=21 then [fl[i]] else if ns[fl[i]].kind=23 then ks[fl[i]] else [] by
    unfold Ks;rw [XJ hxn,show X5 ks fl[i]=ks[fl[i]] from by simp [X5,v]])
   obtain ⟨rg,rc,hr,hri⟩:=(HK.o.below hB).kids fl[i] v
   have hrl:=HLN.o fl[i] v
   generalize ns[fl[i]].kind=kx at *
   generalize ks[fl[i]]=kp at *
   generalize fl[i]=x at *
   generalize Xs ns ks (fl.take i)=mo at *
   have HRI:=X1 hri
   clear hri
   by_cases h20:kx=20∨kx=21
   ·have d:Hid (Xs ns ks (fl.take (i+1))=mo++[x]):=X1 (by rw [HM.o,g.o,if_pos h20])
    rcases h20 with rfl | rfl
    all_goals
     go_wp2
     go_quiet (fail)
     go_wp2_with (at_builtin;refine wpList_append_own_at _ rfl _ _ 31 rfl (w.heap.size+1) 3 iI (.int .i64 0) 1 8 Tryz.underlying31 hI hIz hIs hIb rfl (by decide) (.slice (some ⟨g5,0,none⟩) mo.length c5) mo.length (mo.map vint) rfl ((Y5 HO.o rfl).alloc _) ⟨wr.heap.size,0,none⟩ 1 1 [.int .i64 x] rfl rfl (ZV _ _ _) (by simp [Value.oneCell']) (by unfold maxLen;omega) (by omega) (by simp;omega) ?_)
     intro v2 w2 c a b f
     obtain ⟨g6,c6,rfl,hg6⟩:=Z9 c b (by simpa [Value.ownBlock] using f)
     have hgo:=HO.o.lt g5 rfl
     have l:Below w.heap.size w w2:=((below_drewN hB _).alloc hB.size _).grown a (by have:=hB.size;simp;omega) (fun q e=>by simp [Value.ownBlock] at e;omega)
     have r:w2.cell? ⟨w.heap.size,0,none⟩=some (.slice (some ⟨tg,0,none⟩) (m+1) tc):=(World.cell?_of_block (Zq a w.heap.size a3 (by simp [Value.ownBlock];omega))).trans n
     have s:w.heap.size < w2.heap.size:=Nat.lt_of_lt_of_le (by have:=hB.size;simp;omega) a.size
     clear a b f
     go_wp2
     go_roundw
     case rel =>
      refine ⟨i+1,g6,c6,by omega,by go_num,?_,?_,?_,l,s,r⟩
      ·rw [d.o];simp
      ·rw [d.o,List.map_append,List.length_append];exact c
      ·rw [d.o,List.length_append];simp;omega
     case measure=>simp [intOf];omega
   ·have q20:(kx == 20)=false:=by simp;omega
    have q21:(kx == 21)=false:=by simp;omega
    by_cases h23:kx=23
    ·have d:Hid (Xs ns ks (fl.take (i+1))=mo++kp):=X1 (by rw [HM.o,g.o,if_neg h20,if_pos h23])
     subst h23
     have a1:∀ j u,(kp.map vint)[j]?=some u→wr.cell? ((⟨rg,0,none⟩:Addr).add j)=some u:=by
      intro j u hu
      have hj:j < kp.length:=by have:=(List.getElem?_eq_some_iff.1 hu).1;simpa using this
      rw [ZS,HRI.o.2 j hj,← hu];simp [hj,vint]
     have HNW:=X1 a1
     clear a1
     go_wp2
     go_quiet (fail)
     go_wp2_with (at_builtin;refine wpList_append_own_at _ rfl _ _ 31 rfl (w.heap.size+1) 3 iI (.int .i64 0) 1 8 Tryz.underlying31 hI hIz hIs hIb rfl (by decide) (.slice (some ⟨g5,0,none⟩) mo.length c5) mo.length (mo.map vint) rfl (Y5 HO.o rfl) ⟨rg,0,none⟩ kp.length rc (kp.map vint) rfl (by simp) HNW.o (vint_one _) (by unfold maxLen;omega) (by omega) (by simp;omega) ?_)
     intro v2 w2 c a b f
     obtain ⟨g6,c6,rfl,hg6⟩:=Z9 c (by simpa using b) (by simpa [Value.ownBlock] using f)
     have hgo:=HO.o.lt g5 rfl
     have l:Below w.heap.size w w2:=(below_drewN hB _).grown a (by have:=hB.size;simp;omega) (fun q e=>by simp [Value.ownBlock] at e;omega)
     have r:w2.cell? ⟨w.heap.size,0,none⟩=some (.slice (some ⟨tg,0,none⟩) (m+1) tc):=(World.cell?_of_block (a.block w.heap.size (by simp;omega) (by simp [Value.ownBlock];omega))).trans n
     have s:w.heap.size < w2.heap.size:=Nat.lt_of_lt_of_le (by have:=hB.size;simp;omega) a.size
     clear a b f
     go_wp2
     go_roundw
     case rel =>
      refine ⟨i+1,g6,c6,by omega,by go_num,?_,?_,?_,l,s,r⟩
      ·rw [d.o];simp
      ·rw [d.o,List.map_append,List.length_append];exact c
      ·rw [d.o,List.length_append];omega
     case measure=>simp [intOf];omega
    ·have d:Hid (Xs ns ks (fl.take (i+1))=mo):=X1 (by rw [HM.o,g.o,if_neg h20,if_neg h23,List.append_nil])
     have q23:(kx == 23)=false:=by simpa using h23
     go_wp2
     go_quiet (fail)
     go_wp2
     go_roundw
     case rel =>
      refine ⟨i+1,g5,c5,by omega,by go_num,by rw [d.o],by rw [d.o];exact Y5 HO.o rfl,by rw [d.o];omega,below_drewN hB _,a3,n⟩
     case measure=>simp [intOf];omega
  ·go_wp2
   go_ret
   have e:fl.take i=fl:=List.take_of_length_le (by omega)
   have ho:=HO.o
   rw [e] at ho hol ⊢
   exact ⟨g5,c5,rfl,by have:=(ho.lt g5 rfl).1;omega,Qa ho,by omega,hB⟩
abbrev Tr.Sp:=List (ByteArray × Int)
def Yz (x:ByteArray):Tr.Sp→Option Int
 | []=>none
 | p :: r=>if p.1=x then some p.2 else Yz x r
def Z0 (x:ByteArray):List Tr.Sp→Option Int
 | []=>none
 | sc :: r=>match Yz x sc with
  | some v=>some v
  | none=>Z0 x r
def Y0 (ns:List Tr.Nd) (k:Nat) (e:Tr.Sp × Tr.St):Tr.Sp × Tr.St:=match Yz (Xb ns k) e.1 with
 | some _=>(e.1,Xg k 8 e.2)
 | none=>((Xb ns k,(k:Int)) :: e.1,e.2)
def QA (ns:List Tr.Nd) (k:Nat) (ch:List Tr.Sp) (s:Tr.St):Tr.St:=match Z0 (Xb ns k) ch with
 | some v=>{s with binds:=s.binds.set k v}
 | none=>Xg k 9 s
def Zb (G:Nat→List Tr.Sp→Tr.St→Tr.St) (ls:List Nat) (ch:List Tr.Sp) (s:Tr.St):Tr.St:=ls.foldl (fun s y=>G y ch s) s
def K1 (G:Nat→List Tr.Sp→Tr.St→Tr.St) (ns:List Tr.Nd) (ks:List (List Nat)) (p:Nat) (sc:Tr.Sp) (ch:List Tr.Sp) (df:Bool) (s:Tr.St):Tr.Sp × Tr.St :=
 ((Y0 ns p (sc,Zb G (X5 ks p) (sc :: ch) s)).1,if df=true∧(X5 ks p).length=0 then Xg p 10 (Y0 ns p (sc,Zb G (X5 ks p) (sc :: ch) s)).2 else (Y0 ns p (sc,Zb G (X5 ks p) (sc :: ch) s)).2)
def Kt (G:Nat→List Tr.Sp→Tr.St→Tr.St) (ns:List Tr.Nd) (ks:List (List Nat)):List Nat→Tr.Sp→List Tr.Sp→Bool→Tr.St→Tr.St
 | [],_,_,_,s=>s
 | [x],sc,ch,_,s=>G x (sc :: ch) s
 | p :: q :: r,sc,ch,df,s=>Kt G ns ks (q :: r) (K1 G ns ks p sc ch df s).1 ch (df || !decide ((X5 ks p).length=0)) (K1 G ns ks p sc ch df s).2
def YA (ns:List Tr.Nd) (ms:List Nat) (e:Tr.Sp × Tr.St):Tr.Sp × Tr.St:=ms.foldl (fun e k=>Y0 ns k e) e
def KU (G:Nat→List Tr.Sp→Tr.St→Tr.St) (ns:List Tr.Nd) (ks:List (List Nat)) (ls:List Nat) (ch:List Tr.Sp) (s:Tr.St):Tr.St :=
 Zb G (ls.filter fun x=>X4 ns x != 23) ((YA ns (Xs ns ks ls) ([],s)).1 :: ch) (YA ns (Xs ns ks ls) ([],s)).2
def JU (G:Nat→List Tr.Sp→Tr.St→Tr.St) (ns:List Tr.Nd) (k:Nat) (ch:List Tr.Sp) (s:Tr.St):List Nat→Tr.St
 | []=>s
 | x :: r=>Zb G r ([(Xb ns k,(k:Int))] :: ch) (G x ch s)
def XW (ns:List Tr.Nd) (ks:List (List Nat)):Nat→Nat→List Tr.Sp→Tr.St→Tr.St
 | 0,_,_,s=>s
 | f+1,k,ch,s =>
  if X4 ns k=5 then QA ns k ch s
  else if X4 ns k=14∨X4 ns k=16 then JU (XW ns ks f) ns k ch s (X5 ks k)
  else if X4 ns k=15∨X4 ns k=20 then Kt (XW ns ks f) ns ks (X5 ks k) [] ch false s
  else if X4 ns k=24 then KU (XW ns ks f) ns ks (X5 ks k) ch s
  else Zb (XW ns ks f) (X5 ks k) ch s
theorem Zf (x:ByteArray) (sc:Tr.Sp) (ch:List Tr.Sp):Z0 x (sc :: ch)=(Yz x sc).or (Z0 x ch):=by
 rw [Z0];cases Yz x sc <;> rfl
def YX:Tr.Sp:=[[102,97,105,108],[102,105,108,101,115],[99,117,116],[98,101,103,105,110,115],[119,105,116,104,111,117,116],[114,101,99,111,114,100],[107,101,121,115],[115,112,108,105,116],[106,111,105,110],[117,110,105,113,117,101],[115,111,114,116,101,100],[114,97,110,103,101],[105,110,116],[116,101,120,116],[108,101,110]].map fun l=>(⟨l.toArray⟩,-2)
end Go.Proofs.YtimbaebigjjkaaaGreatDoor
