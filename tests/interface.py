"""The interface as the document lists it: of each file its functions and classes, with their arguments."""

FUNCTIONS = {
    "kinds": ["is_number(thing)", "is_word(thing)", "is_signs(thing)", "is_value(thing)", "is_key(thing)",
              "is_name(thing)", "are_names(thing)", "is_level(thing)", "is_version(thing)", "reaches(one, other)"],
    "deeds": ["key_of(deed)", "doc_of(deed)", "is_ahead(one, other)", "in_order(deeds)", "knew_it(deed, key)"],
    "needs": ["needs(word)"],
    "naming": ["things_of(deed)"],
    "lines": ["shown_what(what)", "shown_version(version)", "shown_deed(deed)", "shown_book(book)"],
    "words": ["index(view)", "spots_of(view, word)"],
    "spotchecker": ["lets_spots(view, word, thing)"],
    "whats": ["is_what(thing)", "is_deed(thing)"],
    "books": ["is_book(thing)", "lets_book(thing)", "deed_at(book, key)", "docs_of(book)", "deeds_of(book, doc)",
              "both_books(one, other)"],
    "versions": ["version_of(book)", "has_key(version, key)", "either(one, other)", "both(one, other)",
                 "has_all(one, other)", "is_closed(book, version)", "book_at(book, version)",
                 "closed_over(book, version)"],
    "gaps": ["gap_of(book, version)"],
    "gapchecker": ["lets_gap(book, version, thing)"],
    "making": ["made(book, what, *, hand)"],
    "letters": ["is_letter(thing)", "lacking(book, version)"],
    "readings": ["read_what(text, *, line=0)", "read_version(text, *, line=0)", "read_deed(text, *, line=0)",
                 "read_book(text)"],
    "standing": ["reason_of(book, key)", "reasons(book)", "standing(book, *, doc)", "working(book, *, doc)",
                 "level_of(book, *, doc, hand, ahead=None)"],
    "undone": ["turn_of(book, key)", "works(book, key)"],
    "standpapers": ["stand_paper(book, key)"],
    "standchecker": ["lets_stand(book, key, thing)"],
    "texts": ["row_of(book, *, doc)", "sign_of(book, name, *, doc)", "hung_on(book, name, *, doc)"],
    "placechecker": ["lets_place(book, one, other, thing, *, doc)"],
    "living": ["signs_of(book, *, doc)", "living(book, *, doc)", "shown_text(book, *, doc)",
               "kept_dead(book, name, *, doc)"],
}

CLASSES = {
    "errors": {
        "CoeditError": [], "PaperError": [], "HouseError": [], "TextError": [],
        "NoPaper": ["__init__(self, word, at)"], "NoDeed": ["__init__(self, word)"],
        "NoKey": ["__init__(self, key)"], "NoCopy": ["__init__(self, hand)"], "NoBack": ["__init__(self, times)"],
        "NoText": ["__init__(self, line, word)"], "NoLine": ["__init__(self, line)"],
    },
    "copies": {
        "Copy": ["__init__(self, hand)", "take(self, deed)", "take_all(self, deeds)", "make(self, what)",
                 "whose(self)", "book(self)", "all_keys(self)", "version(self)", "waiting(self)", "has(self, key)",
                 "deed(self, key)", "write(self, *, to, most=12)", "read(self, letter)", "heard(self, *, of)",
                 "__len__(self)", "__eq__(self, other)"],
    },
    "keeping": {
        "StandingHouse": ["__init__(self)", "take(self, thing)", "take_all(self, things)", "book(self)",
                          "reason(self, key)", "standing(self, *, doc)", "working(self, *, doc)", "looked(self)",
                          "has(self, thing)", "__len__(self)", "__eq__(self, other)"],
    },
}
