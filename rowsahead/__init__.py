"""Tables whose rows are fetched ahead for several trainers, in any order of events."""
