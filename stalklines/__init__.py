"""Lines cast by stalks: stalklines.bundle.answers(calls) is the way in."""
