"""Papers that several tests look at: of each sort of scheme, such as mark alike, and the largest that can be."""

from tests.helpers import nested

A = ("step", "a", 3)
B = ("step", "b", 5)
C = ("step", "c", 2)

# Of each sort, alone and within others; all their words are a, b and c.
PAPERS = (
    (A,),
    (("step", "b", 3),),
    (("step", "c", 9),),
    (("all", (A,)), B),
    (("all", (A, B)),),
    (("all", (B, A, C)),),
    (("best", (A, B)),),
    (("best", (A, ("all", (C, C)))),),
    (("best", (("step", "a", 2), ("behind", "a", B))),),
    (("most", 0, A),),
    (("most", 2, A),),
    (("most", 4, ("all", (A, C))),),
    (("half", A),),
    (("half", ("step", "a", 1)),),
    (("half", ("all", (A, C))),),
    (("seen", "b", A),),
    (("seen", "a", A),),
    (("seen", "c", ("all", (A, ("seen", "b", B)))),),
    (("behind", "b", A),),
    (("behind", "a", A),),
    (("behind", "a", ("behind", "b", C)),),
    (("carry", A),),
    (("carry", ("behind", "b", A)),),
    (("behind", "b", ("carry", A)),),
    (("all", (A, ("carry", A))),),
    (("end", "a", 9, B),),
    (("end", "a", 1, A),),
    (("end", "a", 3, A),),
    (("carry", ("end", "a", 4, B)),),
    (("end", "c", 4, ("carry", ("end", "a", 2, B))),),
    (("behind", "a", ("end", "a", 9, B)),),
    (("seen", "b", ("end", "a", 9, C)),),
    (("half", ("end", "b", 5, ("most", 4, B))),),
    (("use", 1), A),
    (("all", (("use", 1), ("carry", ("use", 1)))), ("behind", "b", A)),
    (("use", 1), ("all", (("use", 2), ("use", 3))), ("seen", "c", ("use", 3)), ("end", "b", 1, A)),
    (("best", (("most", 4, B), ("half", ("all", (B, A, C))), ("end", "c", 5, A))),),
    (("all", (("best", (A, ("carry", B))), ("half", ("behind", "a", ("end", "c", 7, B))))),),
    (("most", 6, ("all", (("half", B), ("behind", "b", ("use", 1))))), ("all", (A, C))),
)

# Papers of the same words that mark each work alike, though they are told by other schemes.
ALIKE = (
    ((A,), (("all", (A,)),)),
    ((A,), (("best", (A, A)), B)),
    ((A,), (("use", 2), B, A)),
    ((A,), (("most", 3, ("step", "a", 7)),)),
    ((A,), (("half", ("step", "a", 7)),)),
    ((A,), (("seen", "a", A),)),
    ((A,), (("all", (("step", "a", 1), ("step", "a", 2))),)),
    ((A,), (("end", "a", 3, A),)),
    ((("all", (A, B)),), (("all", (B, A)),)),
    ((("all", (A, B)),), (("best", (A, ("all", (A, B)), B)),)),
    ((("best", (A, B)),), (("best", (B, A)),)),
    ((("half", ("half", ("step", "b", 9))),), (("step", "b", 2),)),
    ((("carry", ("behind", "b", A)),), (("carry", ("behind", "b", ("carry", A))),)),
    ((("seen", "b", ("seen", "c", A)),), (("seen", "c", ("seen", "b", A)),)),
    ((("behind", "b", A),), (("use", 1), ("use", 2), ("seen", "b", ("behind", "b", A)))),
    ((("most", 0, A),), (("half", ("step", "a", 1)),)),
)

# Papers that mark each work alike, though one of them has words that the other one has no need of.
ALIKE_BUT_FOR_WORDS = (
    ((A,), (("all", (A, ("most", 0, B))),)),
    ((B,), (("all", (("half", ("step", "a", 1)), ("best", (("step", "b", 1), B)))),)),
    ((("half", ("step", "a", 1)),), (("most", 0, C),)),
    ((("behind", "b", A),), (("most", 3, ("all", (("behind", "b", A), ("seen", "c", ("behind", "b", A))))),)),
)

# Seven steps and ends and three seens and behinds each; of all eight words, five schemes, or five deep.
LARGE = (
    (
        ("all", (("step", "a", 9), ("step", "b", 8), ("step", "c", 7), ("use", 1))),
        ("all", (("step", "d", 6), ("step", "e", 5), ("seen", "h", ("use", 2)))),
        ("seen", "a", ("all", (("step", "f", 4), ("seen", "b", ("step", "g", 3))))),
    ),
    (
        ("all", (("carry", ("all", (("step", "a", 9), ("step", "b", 8), ("step", "c", 7)))), ("use", 1))),
        ("all", (("step", "d", 6), ("carry", ("step", "e", 5)), ("behind", "h", ("use", 2)))),
        ("seen", "a", ("all", (("step", "f", 4), ("seen", "b", ("step", "g", 3))))),
        ("use", 4),
        ("step", "a", 1),
    ),
    (
        ("all", (("behind", "a", ("all", (("step", "b", 9), ("carry", C)))), ("use", 1), ("behind", "h", ("use", 2)))),
        ("behind", "b", ("carry", ("all", (("step", "a", 1), ("step", "c", 8))))),
        ("all", (A, ("end", "g", 5, ("step", "f", 4)))),
    ),
    (
        ("carry", ("half", ("most", 30, ("all", (("use", 1), ("use", 2)))))),
        ("most", 20, ("best", (("use", 2), ("step", "a", 4), ("end", "b", 7, ("seen", "e", ("step", "c", 9)))))),
        ("all", (("half", ("carry", ("half", ("use", 3)))), ("step", "d", 9))),
        ("behind", "d", ("all", (("carry", ("most", 8, ("step", "f", 9))),))),
        ("half", ("half", ("half", ("half", ("step", "h", 9))))),
    ),
    (
        nested("carry", 4, ("use", 1)),
        nested("half", 1, nested("carry", 3, ("use", 2))),
        nested("carry", 4, ("use", 3)),
        nested("carry", 4, ("use", 4)),
        ("all", (
            ("seen", "e", ("behind", "f", ("behind", "g", ("step", "h", 9)))), ("all", (A, B, C)),
            ("end", "d", 9, ("end", "a", 8, ("step", "d", 1))),
        )),
    ),
)
