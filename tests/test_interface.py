"""The names, arguments and places that the document's interface tells."""

import ast
import importlib
import inspect
import unittest

FUNCTIONS = {
    "whole": """is_integer(value) is_small_prime(value) power(a,k) divisors(n) factors(n) inverse(a,p)""",
    "linear": """is_row(value,p,n) add(v,w,p) scaled(v,a,p) dot(v,w,p) combine(rows,weights,width,p)
        reduced(rows,width,p) span(rows,width,p) kernel(rows,width,p) relations(rows,width,p)
        unsolved(rows,width,right,p) solve(rows,width,right,p) coordinates(rows,v,p) rest(space,v,p)
        space_holds(space,v,p) sum_of(a,b,width,p) common_part(a,b,width,p) all_rows(space,width,p) identity(n)
        is_matrix(value,p,n) moved(v,matrix,p) times(one,two,p) matrix_power(matrix,k,p) is_invertible(matrix,p)
        matrix_inverse(matrix,p)""",
    "pres": """read_presentation(text)""",
    "collect": """collected(presentation,word) product(presentation,x,y) overlaps(presentation)
        failing_overlap(presentation) is_consistent(presentation)""",
    "build": """cyclic(n) dihedral(n) dicyclic(n) abelian(orders) metacyclic(n,m,k) heisenberg(p) symmetric(n)
        alternating(n) direct(a,b) wreath(a,p) semidirect(a,b,images)""",
    "subgroup": """whole(group) trivial(group) generated(group,items) normal_closure(group,items) join(a,b) meet(a,b)
        conjugated(u,x) is_normal(u) representative(u,x) transversal(u)""",
    "series": """commutators(a,b) derived_series(group) lower_central_series(group) upper_central_series(group)
        is_abelian(group) is_nilpotent(group) exponent(group) abelian_invariants(group) minimal_normal(group)
        chief_series(group) chief_factors(group)""",
    "classes": """centralizer(group,items) centre(group) normalizer(u) class_of(group,x) conjugacy_classes(group)
        conjugator(group,x,y) subgroup_conjugator(u,v) subgroup_class(u)""",
    "maps": """satisfies(a,b,images) homs(a,b) automorphisms(g) find_isomorphism(a,b)""",
    "complement": """equations(group,n) prime_of(group,n) complement(group,n) combination(group,n) complements(group,n)
        cocycles(group,n) coboundaries(group,n) class_count(group,n)""",
    "hall": """is_hall(group,u,primes) hall(group,primes) sylow(group,p) moved_into(group,u,h) sylow_count(group,p)
        sylow_system(group)""",
    "extension": """trivial_module(group,p,d) cocycles(module) coboundaries(module) class_count(module)
        class_tails(module) extension(module,tails) is_split(module,tails)""",
    "papers": """consistency_paper(presentation) member_paper(group,items,x) complement_paper(group,n)
        hall_paper(group,primes) conjugate_paper(group,x,y)""",
    "checker": """takes_consistent(presentation,paper) takes_member(group,items,x,paper) takes_complement(group,n,paper)
        takes_hall(group,primes,paper) takes_conjugate(group,x,y,paper)""",
    "sheet": """read_line(line)""",
    "replies": """reply_to(names,line) defined(names,line) is_right(names,entry)""",
    "log": """write_data(data) read_data(text) write_log(entries) read_log(text) first_wrong(entries)""",
}

CLASSES = {
    ("errors", "Fault"): "",
    ("errors", "Malformed"): "",
    ("errors", "Refused"): "__init__(self,reason)",
    ("errors", "NoText"): "__init__(self,at)",
    ("pres", "Presentation"): """__init__(self,primes,powers,conjugates) is_row(self,value) conjugate_row(self,i,j)
        letters(self,row) __eq__(self,other) __str__(self)""",
    ("group", "Group"): """__init__(self,presentation) __eq__(self,other) is_element(self,value) identity(self)
        generator(self,i) all_elements(self) multiply(self,x,y) inverse(self,x) power(self,x,k) conjugated(self,x,y)
        commutator(self,x,y) order_of(self,x) place(self,x) product_of(self,items) value(self,word)""",
    ("subgroup", "Subgroup"): """__init__(self,group,rows) index(self) contains(self,value) exponents(self,x)
        all_members(self) is_inside(self,other) __eq__(self,other)""",
    ("quotient", "Quotient"): """__init__(self,group,normal) image(self,x) lift(self,y) image_of(self,u) lifted(self,u)""",
    ("maps", "Hom"): """__init__(self,a,b,images) __eq__(self,other) value(self,x) then(self,other) kernel(self)
        image(self) is_one_to_one(self) is_onto(self)""",
    ("extension", "Module"): "__init__(self,group,p,d,matrices) __eq__(self,other) acted(self,v,x)",
    ("replies", "Reply"): "__init__(self,kind,text,data) __eq__(self,other)",
    ("console", "Console"): "__init__(self,most) enter(self,line) __len__(self) __iter__(self) names(self) log(self)",
}


def signature(function):
    return f"{function.__name__}({','.join(inspect.signature(function).parameters)})"


class Interface(unittest.TestCase):
    def test_functions_stand_in_their_files(self):
        for name, told in FUNCTIONS.items():
            module = importlib.import_module(f"polychains.{name}")
            for line in told.split():
                function = getattr(module, line.partition("(")[0])
                self.assertTrue(inspect.isfunction(function), line)
                self.assertEqual(function.__module__, module.__name__)
                self.assertEqual(signature(function), line)

    def test_classes_define_their_methods(self):
        for (name, kind), told in CLASSES.items():
            module = importlib.import_module(f"polychains.{name}")
            made = getattr(module, kind)
            self.assertEqual(made.__module__, module.__name__)
            for line in told.split():
                method = vars(made)[line.partition("(")[0]]
                self.assertEqual(signature(method), line)

    def test_generators_are_generators(self):
        from polychains.group import Group
        from polychains.linear import all_rows
        self.assertTrue(inspect.isgeneratorfunction(all_rows))
        self.assertTrue(inspect.isgeneratorfunction(Group.all_elements))

    def test_default_values(self):
        from polychains.console import Console
        from polychains.replies import Reply
        told = inspect.signature(Reply).parameters
        self.assertEqual([told[name].default for name in ("text", "data")], ["", ()])
        most = inspect.signature(Console).parameters["most"]
        self.assertEqual((most.kind, most.default), (inspect.Parameter.KEYWORD_ONLY, 300))

    def test_fields(self):
        from polychains.extension import Module
        from polychains.group import Group
        from polychains.pres import Presentation
        from polychains.replies import Reply
        group = Group(Presentation((2,), ((0,),), ((),)))
        module = Module(group, 3, 1, [((2,),)])
        self.assertEqual((module.group, module.p, module.d, module.matrices), (group, 3, 1, (((2,),),)))
        reply = Reply("kind", "text", (1,))
        self.assertEqual((reply.kind, reply.text, reply.data), ("kind", "text", (1,)))

    def test_init_defines_nothing(self):
        import polychains
        with open(polychains.__file__) as file:
            self.assertEqual(ast.parse(file.read()).body, [])


if __name__ == "__main__":
    unittest.main()
